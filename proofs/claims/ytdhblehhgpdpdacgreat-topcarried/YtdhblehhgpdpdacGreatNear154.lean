import Derived.Test.YtdhblehhgpdpdacGreatNear140
import Derived.Deep.LoopGhost
namespace Go.Proofs.YtdhblehhgpdpdacGreat
open Go.RowKit
def aAo(x y:Int):Int:=if x<y then -1 else if y<x then 1 else 0
theorem aSg(p r:Pc):(if aAo p.du r.du≠0 then aAo p.du r.du else aAo p.se r.se)=jX p r:=by
 unfold aAo jX
 by_cases h1:p.du<r.du
 ·rw[if_pos h1,if_pos h1,if_pos Yc]
 ·rw[if_neg h1,if_neg h1]
  by_cases h2:r.du<p.du
  ·rw[if_pos h2,if_pos h2,if_pos Yc]
  ·rw[if_neg h2,if_neg h2,if_neg Yc]
theorem aCS(x:Int)(w:World):Calls Tryz.prog 67 #[.int .i64 x] w λe w'=>e=.returned (.bool false)∧w'=w:=by
 go_enter Tryz.func67,Tryz.ntmps67
 go_wp2_with fail
 go_ret
 exact⟨rfl,rfl⟩
set_option maxHeartbeats 1000000 in
theorem aBe(x y:Int)(w:World):Calls Tryz.prog 46 #[.int .i64 x,.int .i64 y] w λe w'=>e=.returned (.int .i64 (aAo x y))∧w'=w:=by
 have C1:=aCS x w
 have C2:=aCS y w
 unfold aAo
 by_cases h1:x<y
 ·rw[if_pos h1]
  go_enter Tryz.func46,Tryz.ntmps46
  go_wp2_with fail
  refine C1.mono ?_
  rintro e w1 ⟨rfl,rfl⟩
  go_wp2_with fail
  refine C2.mono ?_
  rintro e w2 ⟨rfl,rfl⟩
  go_wp2_with fail
  go_ret
  exact⟨rfl,rfl⟩
 ·rw[if_neg h1]
  by_cases h2:y<x
  ·rw[if_pos h2]
   go_enter Tryz.func46,Tryz.ntmps46
   go_wp2_with fail
   refine C1.mono ?_
   rintro e w1 ⟨rfl,rfl⟩
   go_wp2_with fail
   refine C2.mono ?_
   rintro e w2 ⟨rfl,rfl⟩
   go_wp2_with fail
   go_ret
   exact⟨rfl,rfl⟩
  ·rw[if_neg h2]
   go_enter Tryz.func46,Tryz.ntmps46
   go_wp2_with fail
   refine C1.mono ?_
   rintro e w1 ⟨rfl,rfl⟩
   go_wp2_with fail
   refine C2.mono ?_
   rintro e w2 ⟨rfl,rfl⟩
   go_wp2_with fail
   go_ret
   exact⟨rfl,rfl⟩
set_option maxHeartbeats 1000000 in
theorem aRd (x y : Int) (b : Nat) (w : World) (c0 : w.cell? ⟨b, 0, none⟩ = some (.int .i64 x)) (c1 : w.cell? ⟨b, 1, none⟩ = some (.int .i64 y)) :
  Calls Tryz.prog 45 #[.slice (some ⟨b,0,none⟩) 2 2] w λe w'=>e=.returned (.int .i64 (if x≠0 then x else y))∧Below w.heap.size w w':=by
 by_cases h1:x=0
 ·subst h1
  rw[if_neg Yc]
  by_cases h2:y=0
  ·subst h2
   go_enter Tryz.func45,Tryz.ntmps45
   go_wp2_with fail
   go_loopg [8] 2 (λk s8 wr=>w=wr∧∃i:Nat,s8=.int .i64 i∧i+k=2)
   case atStart=>exact⟨rfl,0,rfl,rfl⟩
   case round=>
    obtain⟨rfl,i,rfl,hi⟩:=hrel
    have:i=0∨i=1∨i=2:=Yo
    rcases this with rfl|rfl|rfl
    ·go_wp2_with fail
     go_roundg 1
     case measure=>omega
     case rel=>exact⟨rfl,1,rfl,rfl⟩
    ·go_wp2_with fail
     go_roundg 0
     case measure=>omega
     case rel=>exact⟨rfl,2,rfl,rfl⟩
    ·go_wp2_with fail
     go_ret
     exact⟨rfl,Below.refl _ _⟩
  ·have h2b:(y==0)=false:=by simp[h2]
   go_enter Tryz.func45,Tryz.ntmps45
   go_wp2_with fail
   go_loopg [8] 2 (λk s8 wr=>w=wr∧∃i:Nat,s8=.int .i64 i∧i+k=2∧i≤1)
   case atStart=>exact⟨rfl,0,rfl,rfl,Yo⟩
   case round=>
    obtain⟨rfl,i,rfl,hi,hi1⟩:=hrel
    have:i=0∨i=1:=Yo
    rcases this with rfl|rfl
    ·go_wp2_with fail
     go_roundg 1
     case measure=>omega
     case rel=>exact⟨rfl,1,rfl,rfl,Yo⟩
    ·go_wp2_with fail
     go_ret
     exact⟨rfl,Below.refl _ _⟩
 ·rw[if_pos h1]
  have h1b:(x==0)=false:=by simp[h1]
  go_enter Tryz.func45,Tryz.ntmps45
  go_wp2_with fail
  go_loopg [8] 2 (λk s8 wr=>w=wr∧k=2∧s8=.int .i64 0)
  case atStart=>exact⟨rfl,rfl,rfl⟩
  case round=>
   obtain⟨rfl,rfl,rfl⟩:=hrel
   go_wp2_with fail
   go_ret
   exact⟨rfl,Below.refl _ _⟩
theorem aCQ(x y:Value)(w:World):(callFunc 46 #[x,y]).run Tryz.prog w=.ok (.enter 46 #[x,y]) w:=by go_simp
theorem aMz(x:Value)(w:World):(callFunc 45 #[x]).run Tryz.prog w=.ok (.enter 45 #[x]) w:=by go_simp
theorem aQJ (w : World) {o : Oper} {a : Act} {K : Act → World → Prop} {Q : Exit → Act → World → Prop} (x y : Operand) (ho : o.op = .buildSlice 67 2 #[(0, x), (1, y)]) {u v : Int} (hx : a.eval x = .int .i64 u) (hy : a.eval y = .int .i64 v)
  (h:∀w',w'.cell? ⟨w.heap.size,0,none⟩=some (.int .i64 u)→w'.cell? ⟨w.heap.size,1,none⟩=some (.int .i64 v)→Below w.heap.size w w'→K (a.put o.dst (.slice (some ⟨w.heap.size,0,none⟩) 2 2)) w'):WpI Tryz.prog o a w K Q:=by
 have hh:=h (w.alloc (.cells #[.int .i64 u,.int .i64 v] 3)) (by simp) (by simp) (bR _ _)
 have e:(execOp a.eval o).run Tryz.prog w=.ok (.value (.slice (some ⟨w.heap.size,0,none⟩) 2 2)) (w.alloc (.cells #[.int .i64 u,.int .i64 v] 3)):=by
  generalize a.eval=f at hx hy
  unfold execOp
  rw[ho]
  simp only[List.map_toArray,List.map_cons,List.map_nil]
  rw[hx,hy]
  go_simp
 refine⟨?_⟩
 unfold Oper.wp
 rw[e]
 exact hh
theorem aPI(w:World)(p r:Pc)(u v:Value):∃w2,w2=(w.alloc (.cells #[.int .i64 p.fr,.int .i64 p.to,.int .i64 p.du,.int .i64 p.se,u] 82)).alloc (.cells #[.int .i64 r.fr,.int .i64 r.to,.int .i64 r.du,.int .i64 r.se,v] 82)∧PvAt w2 w.heap.size p u∧PvAt w2 (w.heap.size+1) r v∧Below w.heap.size w w2:=by
 obtain⟨w1,e1,m1,k1,z1⟩:=pW w p u
 obtain⟨w2,e2,m2,k2,z2⟩:=pW w1 r v
 refine⟨w2,by rw[e2,e1],m1.below k2,by rw[←z1];exact m2,k1.trans (k2.mono Yo)⟩
set_option maxHeartbeats 1000000 in
theorem lF (p r : Pc) (pa ra : Option Addr) (pn pc rn rc : Nat) (w : World) :
  Calls Tryz.prog 32 #[lQ p (.slice pa pn pc),lQ r (.slice ra rn rc)] w λe w'=>e=.returned (.int .i64 (jX p r))∧Below w.heap.size w w':=by
 obtain⟨w2,e2,m1,m2,k2⟩:=aPI w p r (.slice pa pn pc) (.slice ra rn rc)
 have E2:=aA e2;have M1:=aA m1;have M2:=aA m2;have K2:=aA k2
 clear e2 m1 m2 k2
 unfold lQ
 go_enter Tryz.func32,Tryz.ntmps32
 go_wp2_with fail
 rw[←unhide E2]
 refine wp_leaves (λa0 a' w'=>Below w2.heap.size w2 w'∧a'=(((((((((((((a0.put (some 5) (.pointer (some ⟨w.heap.size,0+2,none⟩))).put (some 6) (.int .i64 p.du)).put (some 7) (.pointer (some ⟨(w.heap.size+1),0+2,none⟩))).put (some 8) (.int .i64 r.du)).put (some 10) (.pointer (some ⟨w.heap.size,0+3,none⟩))).put (some 11) (.int .i64 p.se)).put (some 12) (.pointer (some ⟨(w.heap.size+1),0+3,none⟩))).put (some 13) (.int .i64 r.se)).put (some 9) (.int .i64 (aAo p.du r.du))).put (some 14) (.int .i64 (aAo p.se r.se))).put (some 15) (.slice (some ⟨w2.heap.size,0,none⟩) 2 2)).put (some 16) (.int .i64 (jX p r))).put (some 4) (.int .i64 (jX p r)))) ?reg ?rest
 case reg=>
  intro A eA
  have b2:A.eval (.tmp 2)=.pointer (some ⟨w.heap.size,0,none⟩):=by rw[eA];rfl
  have b3:A.eval (.tmp 3)=.pointer (some ⟨w.heap.size+1,0,none⟩):=by rw[eA];rfl
  have hs:17≤A.tmps.size:=by rw[eA];exact of_decide_eq_true rfl
  clear eA
  have hS:PvAt w2.drew w.heap.size p (.slice pa pn pc)∧PvAt w2.drew (w.heap.size+1) r (.slice ra rn rc):=⟨unhide M1,unhide M2⟩
  refine nZ (S:=λW=>PvAt W w.heap.size p (.slice pa pn pc)∧PvAt W (w.heap.size+1) r (.slice ra rn rc)) (.rd 0 (.rd 1 (.rd 2 (.rd 3 (.rd 5 (.rd 6 (.rd 7 (.rd 8 (.go 4 (.go 9 (.go 10 (.go 11 (.rd 12 .fin))))))))))))) [] (by kernel_rfl) (by kernel_rfl) ?_
  refine aY (v:=(.pointer (some ⟨w.heap.size,0+2,none⟩))) rfl Yn Yw hS (λwx _=>zX (.tmp 2) 2 rfl b2 Yo wx) ?_
  show SeqI _ _ _ _ _ _ (Act.put _ (some 5) _) _
  refine aY (v:=(.int .i64 p.du)) rfl Yn Yw hS (λwx hx=>nR (.tmp 5) rfl Et hx.1.pc.2.2.1) ?_
  show SeqI _ _ _ _ _ _ (Act.put _ (some 6) _) _
  refine aY (v:=(.pointer (some ⟨(w.heap.size+1),0+2,none⟩))) rfl Yn Yw hS (λwx _=>zX (.tmp 3) 2 rfl (Ex (Ex b3)) Yo wx) ?_
  show SeqI _ _ _ _ _ _ (Act.put _ (some 7) _) _
  refine aY (v:=(.int .i64 r.du)) rfl Yn Yw hS (λwx hx=>nR (.tmp 7) rfl Es hx.2.pc.2.2.1) ?_
  show SeqI _ _ _ _ _ _ (Act.put _ (some 8) _) _
  refine aY (v:=(.pointer (some ⟨w.heap.size,0+3,none⟩))) rfl Yn Yw hS (λwx _=>zX (.tmp 2) 3 rfl (Ex (Ex (Ex (Ex b2)))) Yo wx) ?_
  show SeqI _ _ _ _ _ _ (Act.put _ (some 10) _) _
  refine aY (v:=(.int .i64 p.se)) rfl Yn Yw hS (λwx hx=>nR (.tmp 10) rfl Es hx.1.pc.2.2.2.1) ?_
  show SeqI _ _ _ _ _ _ (Act.put _ (some 11) _) _
  refine aY (v:=(.pointer (some ⟨(w.heap.size+1),0+3,none⟩))) rfl Yn Yw hS (λwx _=>zX (.tmp 3) 3 rfl (Ex (Ex (Ex (Ex (Ex (Ex b3)))))) Yo wx) ?_
  show SeqI _ _ _ _ _ _ (Act.put _ (some 12) _) _
  refine aY (v:=(.int .i64 r.se)) rfl Yn Yw hS (λwx hx=>nR (.tmp 12) rfl Es hx.2.pc.2.2.2.1) ?_
  show SeqI _ _ _ _ _ _ (Act.put _ (some 13) _) _
  refine iN rfl Yw (λK hK=>?_)
  refine dB _ 46 (.tmp 6) (.tmp 8) _ rfl (Ex (Ex (Ex (Ex (Ex (Ex Es)))))) (Ex (Ex (Ex (Ex Es)))) (aCQ _ _ _) (aBe p.du r.du _) ?_
  rintro e wq ⟨rfl,hq⟩
  obtain rfl:w2.drew=wq:=hq.symm
  refine⟨_,rfl,?_⟩
  refine hK _ _ (λ_=>hS) ?_
  clear hK K
  show SeqI _ _ _ _ _ _ (Act.put _ (some 9) _) _
  refine iN rfl Yw (λK hK=>?_)
  refine dB _ 46 (.tmp 11) (.tmp 13) _ rfl (Ex (Ex (Ex Es))) (Ex Es) (aCQ _ _ _) (aBe p.se r.se _) ?_
  rintro e wq ⟨rfl,hq⟩
  obtain rfl:w2.drew=wq:=hq.symm
  refine⟨_,rfl,?_⟩
  refine hK _ _ (λ_=>hS) ?_
  clear hK K
  show SeqI _ _ _ _ _ _ (Act.put _ (some 14) _) _
  refine iN rfl Yw (λK hK=>?_)
  refine aQJ _ (.tmp 9) (.tmp 14) rfl (Ex Es) Es ?_
  intro w3 c0 c1 k3
  have h3:PvAt w3 w.heap.size p (.slice pa pn pc)∧PvAt w3 (w.heap.size+1) r (.slice ra rn rc):=⟨hS.1.below k3,hS.2.below k3⟩
  refine hK _ _ (λ_=>h3) ?_
  clear hK K
  show SeqI _ _ _ _ _ _ (Act.put _ (some 15) _) _
  refine iN rfl Yw (λK hK=>?_)
  refine bN _ 45 (.tmp 15) _ rfl Es (aMz _ _) (aRd _ _ _ _ c0 c1) ?_
  rintro e w4 ⟨rfl,k4⟩
  have h4:PvAt w4 w.heap.size p (.slice pa pn pc)∧PvAt w4 (w.heap.size+1) r (.slice ra rn rc):=⟨h3.1.below k4,h3.2.below k4⟩
  rw[aSg]
  refine⟨_,rfl,?_⟩
  refine hK _ _ (λ_=>h4) ?_
  clear hK K
  show SeqI _ _ _ _ _ _ (Act.put _ (some 16) _) _
  refine aY (v:=(.int .i64 (jX p r))) rfl Yn Yw h4 (λwx _=>jP (.tmp 16) rfl Es wx) ?_
  show SeqI _ _ _ _ _ _ (Act.put _ (some 4) _) _
  exact mZ ⟨rfl,(show Below w2.heap.size w2 w4 from (aQ (Below.refl _ _)).trans (show Below w2.heap.size w2.drew w4 from k3.trans (k4.mono k3.size))),rfl⟩
 case rest=>
  rintro a' w6 ⟨k6,rfl⟩
  have K6:=aA ((unhide K2).trans (k6.mono (unhide K2).size))
  clear k6
  go_frame
  go_wp2_with fail
  go_ret
  exact⟨rfl,unhide K6⟩
end Go.Proofs.YtdhblehhgpdpdacGreat
namespace Go.Proofs.YtdhblehhgpdpdacGreat
open Go
inductive PlanJ where
 |fin
 |rd (i:Nat) (r:PlanJ)
 |mv (i:Nat) (r:PlanJ)
 |go (i:Nat) (r:PlanJ)
 |two (i j:Nat) (ri rj:PlanJ)
 |three (i j k:Nat) (ri rj rk:PlanJ)
def PlanJ.len:PlanJ→Nat
 |.fin=>0
 |.rd _ r=>r.len+1
 |.mv _ r=>r.len+1
 |.go _ r=>r.len+1
 |.two _ _ r _=>r.len+1
 |.three _ _ _ r _ _=>r.len+1
section
variable {P:Program} {ops:Array Oper} {Q:Exit→Act→World→Prop} {md:Region.Mode} {S:World→Prop} {late:Nat→Bool}
def xR(P:Program)(md:Region.Mode)(ops:Array Oper)(Q:Exit→Act→World→Prop)(S:World→Prop)(late:Nat→Bool):Nat→Array Bool→Act→World→Prop
 |0,listed,a,w=>Region.ready md ops listed=[]∧Q .normal a w
 |fuel+1,listed,a,w=>
  (Region.ready md ops listed=[]→Q .normal a w)∧
  ∀i∈Region.ready md ops listed,wpOp P ops Q i (λa' w'=>(late i=false→S w→S w')∧xR P md ops Q S late fuel (listed.setIfInBounds i true) a' w') a w
theorem aBb:∀(fuel:Nat) (listed:Array Bool) (a:Act) (w:World),xR P md ops Q S late fuel listed a w→wpAny P md ops Q fuel listed a w
 |0,_,_,_,h=>h
 |fuel+1,_,_,_,h=>⟨h.1,λi hi=>wpOp_mono (λa' w' k=>aBb fuel _ a' w' k.2) (h.2 i hi)⟩
theorem aHm {i N : Nat} {oi : Oper} {v : Value} (hi : ops[i]? = some oi) (hsel : ∀ (j : Nat) (o : Oper) cs b, ops[j]? = some o → o.op ≠ .select cs b)
  (hQ:∀c a w,Q (.panic c) (a.put oi.dst v) w→Q (.panic c) a w) (hlate:∀j,late j=true→reachB md ops N j i=true):
  ∀(fuel:Nat) (listed:Array Bool) (a:Act) (w:World),ShutDown md ops listed→
   (∀j oj,ops[j]?=some oj→j≠i→listed.getD j true=false→(∀e∈oj.after,Region.binds md e=true→e.on≠i)→oi.apart ops oj=true)→
   i∈Region.ready md ops listed→YieldsIf P ops S oi v a→S w→
   xR P md ops Q S late fuel (listed.setIfInBounds i true) (a.put oi.dst v) w→xR P md ops Q S late (fuel+1) listed a w:=by
 intro fuel
 induction fuel with
 |zero=>
  intro listed a w _ _ hr hy hS H
  refine⟨λh=>(by rw[h] at hr;cases hr),λj hj=>?_⟩
  by_cases hji:j=i
  ·subst hji;exact hy.wpOp hi hS ⟨λ_ h=>h,H⟩
  ·have:=ready_mono hj hji
   rw[H.1] at this
   cases this
 |succ fuel ih=>
  intro listed a w hsd hfree hr hy hS H
  refine⟨λh=>(by rw[h] at hr;cases hr),λj hj=>?_⟩
  have hun:=(mem_ready.1 hr).1
  by_cases hji:j=i
  ·subst hji;exact hy.wpOp hi hS ⟨λ_ h=>h,H⟩
  ·have h1:=H.2 j (ready_mono hj hji)
   obtain⟨hjun,oj,hoj,hall⟩:=mem_ready.1 hj
   have hlj:late j=false:=by
    cases h:late j
    ·rfl
    ·have:=vD hsd N j i (hlate j h) (λo ho e he hb=>by
      obtain rfl:o=oj:=Option.some.inj (ho.symm.trans hoj)
      exact hall e he hb)
     rw[vL hun] at this
     cases this
   have hnot:∀e∈oj.after,Region.binds md e=true→e.on≠i:=λe he hb heq=>by
    have h2:=hall e he hb
    rw[heq,vL hun] at h2
    cases h2
   have h2:=wpOp_putIf hoj (hfree j oj hoj hji hjun hnot) (λcs b=>hsel i oi cs b hi) (λcs b=>hsel j oj cs b hoj) hQ hy h1
   have hfree' : ∀ k ok, ops[k]? = some ok → k ≠ i → (listed.setIfInBounds j true).getD k true = false →
     (∀e∈ok.after,Region.binds md e=true→e.on≠i)→oi.apart ops ok=true:=λk ok hk hki hun hno=>by
    refine hfree k ok hk hki ?_ hno
    by_cases hjk:j=k
    ·subst hjk;exact hjun
    ·rw[getD_set_ne true hjk] at hun;exact hun
   refine wpOp_mono (λa' w' h3=>⟨h3.2.1,ih (listed.setIfInBounds j true) a' w' (hsd.set hj) hfree' (ready_mono hr (Ne.symm hji)) h3.1 (h3.2.1 hlj hS) ?_⟩) h2
   rw[Array.setIfInBounds_comm _ _ hji]
   exact h3.2.2
theorem aKa {i : Nat} {oi : Oper} {v : Value} (hi : ops[i]? = some oi) (hsel : ∀ (j : Nat) (o : Oper) cs b, ops[j]? = some o → o.op ≠ .select cs b)
  (hQ:∀c a w,Q (.panic c) (a.put oi.dst v) w→Q (.panic c) a w):
  ∀(fuel:Nat) (listed:Array Bool) (a:Act) (w:World),
   (∀j oj,ops[j]?=some oj→j≠i→listed.getD j true=false→(∀e∈oj.after,Region.binds md e=true→e.on≠i)→oi.apart ops oj=true)→
   i∈Region.ready md ops listed→YieldsIf P ops (λ_=>True) oi v a→
   xR P md ops Q S late fuel (listed.setIfInBounds i true) (a.put oi.dst v) w→xR P md ops Q S late (fuel+1) listed a w:=by
 intro fuel
 induction fuel with
 |zero=>
  intro listed a w _ hr hy H
  refine⟨λh=>(by rw[h] at hr;cases hr),λj hj=>?_⟩
  by_cases hji:j=i
  ·subst hji;exact hy.wpOp hi trivial ⟨λ_ h=>h,H⟩
  ·have:=ready_mono hj hji
   rw[H.1] at this
   cases this
 |succ fuel ih=>
  intro listed a w hfree hr hy H
  refine⟨λh=>(by rw[h] at hr;cases hr),λj hj=>?_⟩
  have hun:=(mem_ready.1 hr).1
  by_cases hji:j=i
  ·subst hji;exact hy.wpOp hi trivial ⟨λ_ h=>h,H⟩
  ·have h1:=H.2 j (ready_mono hj hji)
   obtain⟨hjun,oj,hoj,hall⟩:=mem_ready.1 hj
   have hnot:∀e∈oj.after,Region.binds md e=true→e.on≠i:=λe he hb heq=>by
    have h2:=hall e he hb
    rw[heq,vL hun] at h2
    cases h2
   have h2:=wpOp_putIf hoj (hfree j oj hoj hji hjun hnot) (λcs b=>hsel i oi cs b hi) (λcs b=>hsel j oj cs b hoj) hQ hy h1
   have hfree' : ∀ k ok, ops[k]? = some ok → k ≠ i → (listed.setIfInBounds j true).getD k true = false →
     (∀e∈ok.after,Region.binds md e=true→e.on≠i)→oi.apart ops ok=true:=λk ok hk hki hun hno=>by
    refine hfree k ok hk hki ?_ hno
    by_cases hjk:j=k
    ·subst hjk;exact hjun
    ·rw[getD_set_ne true hjk] at hun;exact hun
   refine wpOp_mono (λa' w' h3=>⟨h3.2.1,ih (listed.setIfInBounds j true) a' w' hfree' (ready_mono hr (Ne.symm hji)) h3.1 ?_⟩) h2
   rw[Array.setIfInBounds_comm _ _ hji]
   exact h3.2.2
def xY(P:Program)(ops:Array Oper)(Q:Exit→Act→World→Prop)(S:World→Prop)(late:Nat→Bool):PlanJ→Act→World→Prop
 |.fin,a,w=>Q .normal a w
 |.rd i r,a,w=>∃o v,ops[i]?=some o∧YieldsIf P ops S o v a∧S w∧(∀c a w,Q (.panic c) (a.put o.dst v) w→Q (.panic c) a w)∧xY P ops Q S late r (a.put o.dst v) w
 |.mv i r,a,w=>∃o v,ops[i]?=some o∧YieldsIf P ops (λ_=>True) o v a∧(∀c a w,Q (.panic c) (a.put o.dst v) w→Q (.panic c) a w)∧xY P ops Q S late r (a.put o.dst v) w
 |.go i r,a,w=>wpOp P ops Q i (λa' w'=>(late i=false→S w→S w')∧xY P ops Q S late r a' w') a w
 | .two i j ri rj, a, w => wpOp P ops Q i (λa' w' => (late i = false → S w → S w') ∧ xY P ops Q S late ri a' w') a w ∧
   wpOp P ops Q j (λa' w'=>(late j=false→S w→S w')∧xY P ops Q S late rj a' w') a w
 | .three i j k ri rj rk, a, w => wpOp P ops Q i (λa' w' => (late i = false → S w → S w') ∧ xY P ops Q S late ri a' w') a w ∧
   wpOp P ops Q j (λa' w'=>(late j=false→S w→S w')∧xY P ops Q S late rj a' w') a w∧
   wpOp P ops Q k (λa' w'=>(late k=false→S w→S w')∧xY P ops Q S late rk a' w') a w
def kS(md:Region.Mode)(ops:Array Oper)(late:Nat→Bool):PlanJ→Array Bool→Bool
 |.fin,listed=>(Region.ready md ops listed).isEmpty
 |.rd i r,listed=>(Region.ready md ops listed).contains i&&Region.free md ops listed i&&(List.range ops.size).all (λj=> !late j||reachB md ops ops.size j i)&&kS md ops late r (listed.setIfInBounds i true)
 |.mv i r,listed=>(Region.ready md ops listed).contains i&&Region.free md ops listed i&&kS md ops late r (listed.setIfInBounds i true)
 |.go i r,listed=>decide (Region.ready md ops listed=[i])&&kS md ops late r (listed.setIfInBounds i true)
 |.two i j ri rj,listed=>decide (Region.ready md ops listed=[i,j])&&decide (ri.len=rj.len)&&kS md ops late ri (listed.setIfInBounds i true)&&kS md ops late rj (listed.setIfInBounds j true)
 |.three i j k ri rj rk,listed=>decide (Region.ready md ops listed=[i,j,k])&&decide (ri.len=rj.len)&&decide (ri.len=rk.len)&&kS md ops late ri (listed.setIfInBounds i true)&&kS md ops late rj (listed.setIfInBounds j true)&&kS md ops late rk (listed.setIfInBounds k true)
theorem iL (hs : Region.noSelect ops = true) (hlt : ∀ j, late j = true → j < ops.size) : ∀ (l : PlanJ) (listed : Array Bool) (a : Act) (w : World),
  kS md ops late l listed=true→ShutDown md ops listed→xY P ops Q S late l a w→xR P md ops Q S late l.len listed a w
 |.fin,listed,a,w,hb,_,h=>⟨by simpa [kS] using hb,h⟩
 |.rd i r,listed,a,w,hb,hd,h=>by
  simp only[kS,Bool.and_eq_true,Bool.not_eq_true',List.all_eq_true,List.mem_range,Bool.or_eq_true] at hb
  obtain⟨⟨⟨h1,h2⟩,h4⟩,h5⟩:=hb
  obtain⟨o,v,ho,hy,hS,hQ,hr⟩:=h
  have hri:i∈Region.ready md ops listed:=by simpa using h1
  exact aHm ho (Region.noSelect_spec hs) hQ (N:=ops.size) (λj hj=>by
   rcases h4 j (hlt j hj) with h|h
   ·rw[hj] at h;cases h
   ·exact h) r.len listed a w hd (Region.free_spec ho h2) hri hy hS (iL hs hlt r _ _ _ h5 (hd.set hri) hr)
 |.mv i r,listed,a,w,hb,hd,h=>by
  simp only[kS,Bool.and_eq_true] at hb
  obtain⟨⟨h1,h2⟩,h5⟩:=hb
  obtain⟨o,v,ho,hy,hQ,hr⟩:=h
  have hri:i∈Region.ready md ops listed:=by simpa using h1
  exact aKa ho (Region.noSelect_spec hs) hQ r.len listed a w (Region.free_spec ho h2) hri hy (iL hs hlt r _ _ _ h5 (hd.set hri) hr)
 |.go i r,listed,a,w,hb,hd,h=>by
  simp only[kS,Bool.and_eq_true,decide_eq_true_eq] at hb
  obtain⟨h1,h2⟩:=hb
  have hri:i∈Region.ready md ops listed:=by rw[h1];simp
  refine⟨λh0=>(by rw[h1] at h0;cases h0),λj hj=>?_⟩
  rw[h1] at hj
  obtain rfl:j=i:=by simpa using hj
  exact wpOp_mono (λa' w' k=>⟨k.1,iL hs hlt r _ _ _ h2 (hd.set hri) k.2⟩) h
 |.two i j ri rj,listed,a,w,hb,hd,h=>by
  simp only[kS,Bool.and_eq_true,decide_eq_true_eq] at hb
  obtain⟨⟨⟨h1,h2⟩,h3⟩,h4⟩:=hb
  have hi:i∈Region.ready md ops listed:=by rw[h1];simp
  have hj:j∈Region.ready md ops listed:=by rw[h1];simp
  refine⟨λh0=>(by rw[h1] at h0;cases h0),λk hk=>?_⟩
  rw[h1] at hk
  have hk2:k=i∨k=j:=by simpa using hk
  rcases hk2 with rfl|rfl
  ·exact wpOp_mono (λa' w' q=>⟨q.1,iL hs hlt ri _ _ _ h3 (hd.set hi) q.2⟩) h.1
  ·refine wpOp_mono (λa' w' q=>⟨q.1,?_⟩) h.2
   have:=iL hs hlt rj _ a' w' h4 (hd.set hj) q.2
   show xR P md ops Q S late ri.len _ a' w'
   rw[h2]
   exact this
 |.three i j k ri rj rk,listed,a,w,hb,hd,h=>by
  simp only[kS,Bool.and_eq_true,decide_eq_true_eq] at hb
  obtain⟨⟨⟨⟨⟨h1,h2⟩,h2b⟩,h3⟩,h4⟩,h5⟩:=hb
  have hi:i∈Region.ready md ops listed:=by rw[h1];simp
  have hj:j∈Region.ready md ops listed:=by rw[h1];simp
  have hk0:k∈Region.ready md ops listed:=by rw[h1];simp
  refine⟨λh0=>(by rw[h1] at h0;cases h0),λq hq=>?_⟩
  rw[h1] at hq
  have hk2:q=i∨q=j∨q=k:=by simpa using hq
  rcases hk2 with rfl|rfl|rfl
  ·exact wpOp_mono (λa' w' q=>⟨q.1,iL hs hlt ri _ _ _ h3 (hd.set hi) q.2⟩) h.1
  ·refine wpOp_mono (λa' w' q=>⟨q.1,?_⟩) h.2.1
   have:=iL hs hlt rj _ a' w' h4 (hd.set hj) q.2
   show xR P md ops Q S late ri.len _ a' w'
   rw[h2]
   exact this
  ·refine wpOp_mono (λa' w' q=>⟨q.1,?_⟩) h.2.2
   have:=iL hs hlt rk _ a' w' h5 (hd.set hk0) q.2
   show xR P md ops Q S late ri.len _ a' w'
   rw[h2b]
   exact this
structure SeqJ (P:Program) (ops:Array Oper) (Q:Exit→Act→World→Prop) (S:World→Prop) (late:Nat→Bool) (l:PlanJ) (a:Act) (w:World):Prop where
 out:xY P ops Q S late l a w
theorem iQ {id : Nat} {a : Act} {w : World} (l : PlanJ) (lt : List Nat) (hm : P.follows .mixedOrders = true)
  (hb:(Region.noSelect ops&&lt.all (λj=>decide (j<ops.size))&&decide (l.len=ops.size)&&kS .any ops (jL lt) l (Array.replicate ops.size false))=true)
  (h:SeqJ P ops Q S (jL lt) l a w.drew):(Code.region id ops true).wp P Q a w:=by
 simp only[Bool.and_eq_true,decide_eq_true_eq] at hb
 obtain⟨⟨⟨h1,h2⟩,h3⟩,h4⟩:=hb
 have h5:=iL (P:=P) (Q:=Q) (S:=S) h1 (λj hj=>by
  have:=List.all_eq_true.1 h2 j (by simpa [jL] using hj)
  simpa using this) l _ a w.drew h4 (oK ops.size) h.out
 rw[h3] at h5
 exact wp_region_any hm (aBb _ _ _ _ h5)
theorem jV{a:Act}{w:World}(h:Q .normal a w):SeqJ P ops Q S late .fin a w:=⟨h⟩
theorem fC {i : Nat} {o : Oper} {v : Value} {r : PlanJ} {a : Act} {w : World} (ho : ops[i]? = some o) (hQ : ∀ c a w, Q (.panic c) (a.put o.dst v) w → Q (.panic c) a w) (hw : Region.wanted o (yielded ops a.tmps) = true) (hS : S w)
  (hy:∀w,S w→(execOp a.eval o).run P w=.ok (.value v) w) (h:SeqJ P ops Q S late r (a.put o.dst v) w):SeqJ P ops Q S late (.rd i r) a w:=⟨⟨o,v,ho,Or.inl ⟨hw,hy⟩,hS,hQ,h.out⟩⟩
theorem aL {i : Nat} {o : Oper} {v : Value} {r : PlanJ} {a : Act} {w : World} (ho : ops[i]? = some o) (hQ : ∀ c a w, Q (.panic c) (a.put o.dst v) w → Q (.panic c) a w) (hw : Region.wanted o (yielded ops a.tmps) = true)
  (hy:∀w,(execOp a.eval o).run P w=.ok (.value v) w) (h:SeqJ P ops Q S late r (a.put o.dst v) w):SeqJ P ops Q S late (.mv i r) a w:=⟨⟨o,v,ho,Or.inl ⟨hw,λw _=>hy w⟩,hQ,h.out⟩⟩
theorem jU {i : Nat} {o : Oper} {r : PlanJ} {a : Act} {w : World} (ho : ops[i]? = some o) (hQ : ∀ c a w, Q (.panic c) (a.put o.dst undef) w → Q (.panic c) a w) (hw : Region.wanted o (yielded ops a.tmps) = false)
  (h:SeqJ P ops Q S late r (a.put o.dst undef) w):SeqJ P ops Q S late (.mv i r) a w:=⟨⟨o,undef,ho,Or.inr ⟨hw,rfl⟩,hQ,h.out⟩⟩
theorem kH {i : Nat} {o : Oper} {r : PlanJ} {a : Act} {w : World} (ho : ops[i]? = some o) (hw : Region.wanted o (yielded ops a.tmps) = true)
  (h:∀K:Act→World→Prop,(∀a w',(late i=false→S w→S w')→SeqJ P ops Q S late r a w'→K a w')→WpI P o a w K Q):SeqJ P ops Q S late (.go i r) a w:=
 ⟨wpOp_step ho (λK' hK=>by rw[if_pos hw];exact (h K' (λa w h1 h2=>hK a w ⟨h1,h2.out⟩)).out)⟩
theorem aRl{l r:PlanJ}{a:Act}{w:World}(T:Act→World→Prop)(hr:∀A W,T A W→SeqJ P ops Q S late r A W)(hl:(∀A W,T A W→SeqJ P ops Q S late r A W)→SeqJ P ops Q S late l a w):SeqJ P ops Q S late l a w:=hl hr
end
end Go.Proofs.YtdhblehhgpdpdacGreat
namespace Go.Proofs.YtdhblehhgpdpdacGreat
open Go.RowKit
set_option maxHeartbeats 2000000 in
set_option maxRecDepth 100000 in
theorem uE (g cap n : Nat) (F : Nat → Lp) (d : Nat → Nat) (a b k : Nat) (w : World) (h : SoR w g cap n F d) (h1 : a + k ≤ b) (h2 : b + k ≤ n) (hn : n ≤ 2513169434843) :
  Calls Tryz.prog 104 #[.slice (some ⟨g,0,none⟩) n cap,.int .i64 (a:Int),.int .i64 (b:Int),.int .i64 (k:Int),(.func (.func 32) #[] #[])] w λe w'=>e=.returned (.tuple #[])∧SoR w' g cap n F (kL d a b k)∧Kept g w w':=by
 have HH:=aA h
 clear h
 go_enter Tryz.func104,Tryz.ntmps104
 go_wp2_with fail
 go_loopg [10] k (λr s10 wr=>∃i:Nat,s10=.int .i64 (i:Int)∧i≤k∧k-i≤r∧Hid (SoR wr g cap n F (kL d a b i))∧Hid (Kept g w wr))
 case atStart=>exact⟨0,rfl,Yo,Yo,aA (by rw[aME];exact unhide HH),aA (Kept.of_below (Below.refl _ _))⟩
 case round=>
  obtain⟨i,rfl,hi,hr,HS,KS⟩:=hrel
  by_cases hik:i<k
  ·have hik':(i:Int)<(k:Int):=Yo
   go_wp2_with fail
   refine wp_leaves (λa0 a' w'=>SoR w' g cap n F (wH (kL d a b i) (a+i) (b+i))∧Kept g wr w'∧a'=((((((((((((((((((((((a0.put (some 16) (.slice (some ⟨g,0,none⟩) n cap)).put (some 17) (.int .i64 ((a:Int)))).put (some 18) (.int .i64 ((i:Int)))).put (some 19) (.int .i64 ((a:Int)+(i:Int)))).put (some 20) (.slice (some ⟨g,0,none⟩) n cap)).put (some 21) (.int .i64 ((b:Int)))).put (some 22) (.int .i64 ((i:Int)))).put (some 23) (.int .i64 ((b:Int)+(i:Int)))).put (some 24) (.slice (some ⟨g,0,none⟩) n cap)).put (some 25) (.int .i64 ((b:Int)))).put (some 26) (.int .i64 ((i:Int)))).put (some 27) (.int .i64 ((b:Int)+(i:Int)))).put (some 28) (.pointer (some ⟨g,(b+i)*5,none⟩))).put (some 29) (dZ (F ((kL d a b i) (b+i))))).put (some 30) (.slice (some ⟨g,0,none⟩) n cap)).put (some 31) (.int .i64 ((a:Int)))).put (some 32) (.int .i64 ((i:Int)))).put (some 33) (.int .i64 ((a:Int)+(i:Int)))).put (some 34) (.pointer (some ⟨g,(a+i)*5,none⟩))).put (some 35) (dZ (F ((kL d a b i) (a+i))))).put (some 36) (.pointer (some ⟨g,(a+i)*5,none⟩))).put (some 37) (.pointer (some ⟨g,(b+i)*5,none⟩)))) ?reg ?rest
   case reg=>
    intro A eA
    have b0:A.eval (.tmp 0)=(.slice (some ⟨g,0,none⟩) n cap):=by rw[eA];rfl
    have b1:A.eval (.tmp 1)=(.int .i64 ((a:Int))):=by rw[eA];rfl
    have b2:A.eval (.tmp 2)=(.int .i64 ((b:Int))):=by rw[eA];rfl
    have b10:A.eval (.tmp 10)=(.int .i64 ((i:Int))):=by rw[eA];rfl
    have hs:38≤A.tmps.size:=by rw[eA];exact of_decide_eq_true rfl
    clear eA
    have hS:SoR wr.drew g cap n F ((kL d a b i)):=unhide HS
    refine iQ (S:=λW=>SoR W g cap n F ((kL d a b i))) (.mv 0 (.mv 1 (.mv 2 (.mv 3 (.mv 4 (.mv 5 (.mv 6 (.mv 7 (.mv 8 (.mv 9 (.mv 10 (.mv 11 (.mv 12 (.rd 13 (.mv 14 (.mv 15 (.mv 16 (.mv 17 (.mv 18 (.rd 19 (.mv 20 (.go 21 (.mv 22 (.go 23 .fin)))))))))))))))))))))))) [21,23] (by kernel_rfl) (by kernel_rfl) ?_
    refine aL (v:=(.slice (some ⟨g,0,none⟩) n cap)) rfl Yn Yw (λwx=>aH (.tmp 0) rfl b0 wx) ?_
    show SeqJ _ _ _ _ _ _ (Act.put _ (some 16) _) _
    refine aL (v:=(.int .i64 ((a:Int)))) rfl Yn Yw (λwx=>aH (.tmp 1) rfl (Ex b1) wx) ?_
    show SeqJ _ _ _ _ _ _ (Act.put _ (some 17) _) _
    refine aL (v:=(.int .i64 ((i:Int)))) rfl Yn Yw (λwx=>aH (.tmp 10) rfl (Ex (Ex b10)) wx) ?_
    show SeqJ _ _ _ _ _ _ (Act.put _ (some 18) _) _
    refine aL (v:=(.int .i64 ((a:Int)+(i:Int)))) rfl Yn Yw (λwx=>pU (.tmp 17) (.tmp 18) rfl (Ex Es) Es Yo Yo wx) ?_
    show SeqJ _ _ _ _ _ _ (Act.put _ (some 19) _) _
    refine aL (v:=(.slice (some ⟨g,0,none⟩) n cap)) rfl Yn Yw (λwx=>aH (.tmp 0) rfl (Ex (Ex (Ex (Ex b0)))) wx) ?_
    show SeqJ _ _ _ _ _ _ (Act.put _ (some 20) _) _
    refine aL (v:=(.int .i64 ((b:Int)))) rfl Yn Yw (λwx=>aH (.tmp 2) rfl (Ex (Ex (Ex (Ex (Ex b2))))) wx) ?_
    show SeqJ _ _ _ _ _ _ (Act.put _ (some 21) _) _
    refine aL (v:=(.int .i64 ((i:Int)))) rfl Yn Yw (λwx=>aH (.tmp 10) rfl (Ex (Ex (Ex (Ex (Ex (Ex b10)))))) wx) ?_
    show SeqJ _ _ _ _ _ _ (Act.put _ (some 22) _) _
    refine aL (v:=(.int .i64 ((b:Int)+(i:Int)))) rfl Yn Yw (λwx=>pU (.tmp 21) (.tmp 22) rfl (Ex Es) Es Yo Yo wx) ?_
    show SeqJ _ _ _ _ _ _ (Act.put _ (some 23) _) _
    refine aL (v:=(.slice (some ⟨g,0,none⟩) n cap)) rfl Yn Yw (λwx=>aH (.tmp 0) rfl (Ex (Ex (Ex (Ex (Ex (Ex (Ex (Ex b0)))))))) wx) ?_
    show SeqJ _ _ _ _ _ _ (Act.put _ (some 24) _) _
    refine aL (v:=(.int .i64 ((b:Int)))) rfl Yn Yw (λwx=>aH (.tmp 2) rfl (Ex (Ex (Ex (Ex (Ex (Ex (Ex (Ex (Ex b2))))))))) wx) ?_
    show SeqJ _ _ _ _ _ _ (Act.put _ (some 25) _) _
    refine aL (v:=(.int .i64 ((i:Int)))) rfl Yn Yw (λwx=>aH (.tmp 10) rfl (Ex (Ex (Ex (Ex (Ex (Ex (Ex (Ex (Ex (Ex b10)))))))))) wx) ?_
    show SeqJ _ _ _ _ _ _ (Act.put _ (some 26) _) _
    refine aL (v:=(.int .i64 ((b:Int)+(i:Int)))) rfl Yn Yw (λwx=>pU (.tmp 25) (.tmp 26) rfl (Ex Es) Es Yo Yo wx) ?_
    show SeqJ _ _ _ _ _ _ (Act.put _ (some 27) _) _
    refine aL (v:=(.pointer (some ⟨g,(b+i)*5,none⟩))) rfl Yn Yw (λwx=>dK (i:=b+i) (.tmp 24) (.tmp 27) rfl (Ex (Ex (Ex Es))) Es Yo Yo wx) ?_
    show SeqJ _ _ _ _ _ _ (Act.put _ (some 28) _) _
    refine fC (v:=(dZ (F ((kL d a b i) (b+i))))) rfl Yn Yw hS (λwx hx=>eO (.tmp 28) rfl Es hx Yo) ?_
    show SeqJ _ _ _ _ _ _ (Act.put _ (some 29) _) _
    refine aL (v:=(.slice (some ⟨g,0,none⟩) n cap)) rfl Yn Yw (λwx=>aH (.tmp 0) rfl (Ex (Ex (Ex (Ex (Ex (Ex (Ex (Ex (Ex (Ex (Ex (Ex (Ex (Ex b0)))))))))))))) wx) ?_
    show SeqJ _ _ _ _ _ _ (Act.put _ (some 30) _) _
    refine aL (v:=(.int .i64 ((a:Int)))) rfl Yn Yw (λwx=>aH (.tmp 1) rfl (Ex (Ex (Ex (Ex (Ex (Ex (Ex (Ex (Ex (Ex (Ex (Ex (Ex (Ex (Ex b1))))))))))))))) wx) ?_
    show SeqJ _ _ _ _ _ _ (Act.put _ (some 31) _) _
    refine aL (v:=(.int .i64 ((i:Int)))) rfl Yn Yw (λwx=>aH (.tmp 10) rfl (Ex (Ex (Ex (Ex (Ex (Ex (Ex (Ex (Ex (Ex (Ex (Ex (Ex (Ex (Ex (Ex b10)))))))))))))))) wx) ?_
    show SeqJ _ _ _ _ _ _ (Act.put _ (some 32) _) _
    refine aL (v:=(.int .i64 ((a:Int)+(i:Int)))) rfl Yn Yw (λwx=>pU (.tmp 31) (.tmp 32) rfl (Ex Es) Es Yo Yo wx) ?_
    show SeqJ _ _ _ _ _ _ (Act.put _ (some 33) _) _
    refine aL (v:=(.pointer (some ⟨g,(a+i)*5,none⟩))) rfl Yn Yw (λwx=>dK (i:=a+i) (.tmp 30) (.tmp 33) rfl (Ex (Ex (Ex Es))) Es Yo Yo wx) ?_
    show SeqJ _ _ _ _ _ _ (Act.put _ (some 34) _) _
    refine fC (v:=(dZ (F ((kL d a b i) (a+i))))) rfl Yn Yw hS (λwx hx=>eO (.tmp 34) rfl Es hx Yo) ?_
    show SeqJ _ _ _ _ _ _ (Act.put _ (some 35) _) _
    refine aL (v:=(.pointer (some ⟨g,(a+i)*5,none⟩))) rfl Yn Yw (λwx=>dK (i:=a+i) (.tmp 16) (.tmp 19) rfl (Ex (Ex (Ex (Ex (Ex (Ex (Ex (Ex (Ex (Ex (Ex (Ex (Ex (Ex (Ex (Ex (Ex (Ex (Ex Et))))))))))))))))))) (Ex (Ex (Ex (Ex (Ex (Ex (Ex (Ex (Ex (Ex (Ex (Ex (Ex (Ex (Ex (Ex Es)))))))))))))))) Yo Yo wx) ?_
    show SeqJ _ _ _ _ _ _ (Act.put _ (some 36) _) _
    refine kH rfl Yw (λK hK=>?_)
    refine mH _ (.tmp 36) (.tmp 29) rfl Es (Ex (Ex (Ex (Ex (Ex (Ex (Ex Es))))))) hS Yo rfl ?_
    intro w1 m1 k1 z1
    refine hK _ _ (λh=>absurd h Yc) ?_
    clear hK K
    refine aL (v:=(.pointer (some ⟨g,(b+i)*5,none⟩))) rfl Yn Yw (λwx=>dK (i:=b+i) (.tmp 20) (.tmp 23) rfl (Ex (Ex (Ex (Ex (Ex (Ex (Ex (Ex (Ex (Ex (Ex (Ex (Ex (Ex (Ex (Ex Es)))))))))))))))) (Ex (Ex (Ex (Ex (Ex (Ex (Ex (Ex (Ex (Ex (Ex (Ex (Ex Es))))))))))))) Yo Yo wx) ?_
    show SeqJ _ _ _ _ _ _ (Act.put _ (some 37) _) _
    refine kH rfl Yw (λK hK=>?_)
    refine mH _ (.tmp 37) (.tmp 35) rfl Es (Ex (Ex Es)) m1 Yo rfl ?_
    intro w2 m2 k2 z2
    refine hK _ _ (λh=>absurd h Yc) ?_
    clear hK K
    have m3:=m2
    rw[aAT] at m3
    exact jV ⟨rfl,m3,((Kept.of_below (show Below wr.heap.size wr wr.drew from (aQ (Below.refl _ _)))).trans k1 (Or.inl rfl)).trans k2 (Or.inl rfl),rfl⟩
   case rest=>
    rintro a' w2 ⟨m2,k2,rfl⟩
    have HS2:=aA m2
    have KS2:=aA ((unhide KS).trans k2 (Or.inl rfl))
    clear m2 k2
    go_frame
    go_wp2_with fail
    go_roundg (k-(i+1))
    case measure=>omega
    case rel=>exact⟨i+1,by go_num,Yo,Yo,aA (by rw[←aLc (n:=k) h1 hik];exact unhide HS2),KS2⟩
  ·obtain rfl:i=k:=Yo
   go_wp2_with fail
   go_end0
   exact⟨rfl,unhide HS,unhide KS⟩
set_option maxHeartbeats 2000000 in
set_option maxRecDepth 100000 in
theorem aHo (g cap n : Nat) (F : Nat → Lp) (d : Nat → Nat) (a m b : Nat) (w : World) (h : SoR w g cap n F d) (h1 : a < m) (h2 : m < b) (h3 : b ≤ n) (hn : n ≤ 2513169434843) :
  Calls Tryz.prog 88 #[.slice (some ⟨g,0,none⟩) n cap,.int .i64 (a:Int),.int .i64 (m:Int),.int .i64 (b:Int),(.func (.func 32) #[] #[])] w λe w'=>e=.returned (.tuple #[])∧SoR w' g cap n F (bH d a m b)∧Kept g w w':=by
 have HH:=aA h
 clear h
 have e1:(m:Int)-(a:Int)=((m-a:Nat):Int):=Yo
 have e2:(b:Int)-(m:Int)=((b-m:Nat):Int):=Yo
 go_enter Tryz.func88,Tryz.ntmps88
 go_wp2_with fail
 go_loopg [10,11] (b-a) (λr s10 s11 wr=>∃(i j:Nat) (dk:Nat→Nat),s10=.int .i64 (i:Int)∧s11=.int .i64 (j:Int)∧0<i∧0<j∧a+i≤m∧m+j≤b∧i+j≤r∧Hid (SoR wr g cap n F dk)∧Hid (bH dk (m-i) m (m+j)=bH d a m b)∧Hid (Kept g w wr))
 case atStart=>exact⟨m-a,b-m,d,by first|rfl|rw[e1],by first|rfl|rw[e2],Yo,Yo,Yo,Yo,Yo,HH,aA (by rw[show m-(m-a)=a by omega,show m+(b-m)=b by omega]),aA (Kept.of_below (Below.refl _ _))⟩
 case round=>
  clear e1 e2
  obtain⟨i,j,dk,rfl,rfl,hi,hj,hai,hbj,hr,HS,HE,KS⟩:=hrel
  by_cases hij:i=j
  ·subst hij
   have hcall:=uE g cap n F dk (m-i) m i wr (unhide HS) Yo Yo hn
   rw[show ((m-i:Nat):Int)=(m:Int)-(i:Int) by omega] at hcall
   go_wp2_with fail
   refine hcall.mono ?_
   rintro e w2 ⟨rfl,m2,k2⟩
   have M2:=aA m2
   have K2:=aA ((unhide KS).trans k2 (Or.inl rfl))
   clear m2 k2 hcall
   go_wp2_with fail
   go_end0
   exact⟨rfl,by rw[←unhide HE, ←aMD Yo];exact unhide M2,unhide K2⟩
  ·have hijz:¬(i:Int)=(j:Int):=Yo
   have hijb:((i:Int)==(j:Int))=false:=beq_eq_false_iff_ne.2 hijz
   by_cases hlt:j<i
   ·have hltz:(j:Int)<(i:Int):=Yo
    have hcall:=uE g cap n F dk (m-i) m j wr (unhide HS) Yo Yo hn
    rw[show ((m-i:Nat):Int)=(m:Int)-(i:Int) by omega] at hcall
    have e3:(i:Int)-(j:Int)=((i-j:Nat):Int):=Yo
    go_wp2_with fail
    refine hcall.mono ?_
    rintro e w2 ⟨rfl,m2,k2⟩
    have M2:=aA m2
    have K2:=aA ((unhide KS).trans k2 (Or.inl rfl))
    clear m2 k2 hcall
    go_wp2_with fail
    go_roundg (i-j+j)
    case measure=>omega
    case rel=>exact⟨i-j,j,_,by first|rfl|rw[e3],rfl,Yo,hj,Yo,hbj,Yo,M2,aA (by rw[aLh Yo hlt];exact unhide HE),K2⟩
   ·have hltz:¬(j:Int)<(i:Int):=Yo
    have hcall:=uE g cap n F dk (m-i) (m+j-i) i wr (unhide HS) Yo Yo hn
    rw[show ((m-i:Nat):Int)=(m:Int)-(i:Int) by omega,show ((m+j-i:Nat):Int)=(m:Int)+(j:Int)-(i:Int) by omega] at hcall
    have e3:(j:Int)-(i:Int)=((j-i:Nat):Int):=Yo
    go_wp2_with fail
    refine hcall.mono ?_
    rintro e w2 ⟨rfl,m2,k2⟩
    have M2:=aA m2
    have K2:=aA ((unhide KS).trans k2 (Or.inl rfl))
    clear m2 k2 hcall
    go_wp2_with fail
    go_roundg (i+(j-i))
    case measure=>omega
    case rel=>exact⟨i,j-i,_,rfl,by first|rfl|rw[e3],hi,Yo,hai,Yo,Yo,M2,aA (by rw[aJQ Yo Yo];exact unhide HE),K2⟩
theorem aDb{d:Nat→Nat}{j m:Nat}(h:0<j)(k:j≤m):wH (bH d j m (m+1)) j (j-1)=bH d (j-1) m (m+1):=by
 have:=aMd (d:=d) (k:=j-1) (m:=m) Yo
 rwa [show j-1+1=j by omega] at this
set_option maxHeartbeats 4000000 in
set_option maxRecDepth 100000 in
theorem aAj (g cap n : Nat) (F : Nat → Lp) (d : Nat → Nat) (a b : Nat) (w : World) (h : SoR w g cap n F d) (h1 : a ≤ b) (h2 : b ≤ n) (hn : n ≤ 2513169434843) (hd : ∀ x y, a ≤ x → x < y → y < b → d x < d y) :
  Calls Tryz.prog 65 #[.slice (some ⟨g,0,none⟩) n cap,.int .i64 (a:Int),.int .i64 (b:Int),(.func (.func 32) #[] #[])] w λe w'=>e=.returned (.tuple #[])∧∃e:Nat→Nat,Same a b d e∧SoT (TQ λy=>(F y).p) e a b∧SoR w' g cap n F e∧Kept g w w':=by
 have HH:=aA h
 have HD:=aA hd
 clear h hd
 go_enter Tryz.func65,Tryz.ntmps65
 go_wp2_with fail
 go_loopg [8] (b-a) (λr s8 wr=>∃(i:Nat) (dk:Nat→Nat),s8=.int .i64 (i:Int)∧a<i∧i≤b+1∧(i≤b∨b≤a)∧b-i≤r∧Hid (SoR wr g cap n F dk)∧Hid ((b≤a→dk=d)∧(i≤b→Same a i d dk∧SoT (TQ λy=>(F y).p) dk a i))∧Hid (Kept g w wr))
 case atStart=>exact⟨a+1,d,by go_num,Yo,Yo,Yo,Yo,HH,aA ⟨λ_=>rfl,λ_=>⟨Same.refl _ _ _,SoT.none Yo⟩⟩,aA (Kept.of_below (Below.refl _ _))⟩
 case round=>
  obtain⟨i,dk,rfl,hai,hib,hib2,hr,HS,HI,KS⟩:=hrel
  by_cases hlt:i<b
  ·have hltz:(i:Int)<(b:Int):=Yo
   have hsi:Same a i d dk∧SoT (TQ λy=>(F y).p) dk a i:=(unhide HI).2 Yo
   have hdi:dk i=d i:=hsi.1.out i Yo
   have hx:∀x,a≤x→x<i→dk x<dk i:=λx x1 x2=>by
    obtain⟨y,y1,y2,ey⟩:=hsi.1.of x x1 x2
    rw[ey,hdi]
    exact unhide HD y i y1 y2 hlt
   have HM:Hid (Mg (TQ λy=>(F y).p) dk a i (i+1)):=aA ⟨hsi.2,SoT.none Yo,λx y x1 x2 y1 y2=>by rw[show y=i by omega];exact hx x x1 x2⟩
   have HSI:=aA hsi;have HX:=aA hx
   clear hsi hdi hx
   go_wp2_with fail
   go_loopg [9] i (λr2 s9 wr=>∃j:Nat,s9=.int .i64 (j:Int)∧a≤j∧j≤i∧j≤r2∧Hid (SoR wr g cap n F (bH dk j i (i+1)))∧Hid (∀x,j≤x→x<i→TQ (λy=>(F y).p) (dk i) (dk x))∧Hid (Kept g w wr))
   case atStart=>exact⟨i,rfl,Yo,Yo,Yo,aA (by rw[tV (Or.inl rfl) Yo Yo];exact unhide HS),aA (λx x1 x2=>by omega),KS⟩
   case round=>
    clear HS KS
    obtain⟨j,rfl,haj,hji,hr2,HS,HT,KS⟩:=hrel
    have EA:Hid (bH dk j i (i+1) j=dk i):=aA (by rw[jD Yo Yo];congr 1;omega)
    have OUT:Hid ((j≤a∨0≤jX (F (bH dk j i (i+1) j)).p (F (bH dk j i (i+1) (j-1))).p)→(b≤a→bH dk j i (i+1)=d)∧(i+1≤b→Same a (i+1) d (bH dk j i (i+1))∧SoT (TQ λy=>(F y).p) (bH dk j i (i+1)) a (i+1))):=aA (λhs=>⟨λhb=>by omega,λ_=>by
     have q:=aGl (unhide HM) haj hji (λx x1 x2=>?_) (unhide HT)
     ·exact⟨((unhide HSI).1.wide (Nat.le_refl _) Yo).trans q.1,q.2⟩
     ·rcases hs with hs|hs
      ·omega
      ·have eb:bH dk j i (i+1) (j-1)=dk (j-1):=gN Yo Yo Yo
       rw[unhide EA,eb] at hs
       have k:=aDG (q:=λy=>(F y).p) (unhide HX (j-1) Yo Yo) (Int.not_lt.2 hs)
       by_cases e:x=j-1
       ·subst e;exact k
       ·exact (lH _).tr _ _ _ ((unhide HSI).2 x (j-1) x1 Yo Yo) k⟩)
    by_cases hja:a<j
    ·have hjaz:(a:Int)<(j:Int):=Yo
     have EB:Hid (bH dk j i (i+1) (j-1)=dk (j-1)):=aA (gN Yo Yo Yo)
     by_cases hl:jX (F (bH dk j i (i+1) j)).p (F (bH dk j i (i+1) (j-1))).p<0
     ·have HL:=aA hl
      clear hl
      go_wp2_with fail
      refine wp_leaves (λa0 a' w'=>SoR w' g cap n F ((bH dk j i (i+1)))∧Kept g wr w'∧a'=(((((((((((((((((a0.put (some 18) (.int .i64 ((j:Int)))).put (some 19) (.int .i64 ((a:Int)))).put (some 20) (.bool true)).put (some 21) (.bool true)).put (some 22) (.func (.func 32) #[] #[])).put (some 23) (.slice (some ⟨g,0,none⟩) n cap)).put (some 24) (.int .i64 ((j:Int)))).put (some 25) (.pointer (some ⟨g,(j)*5,none⟩))).put (some 26) (dZ (F ((bH dk j i (i+1)) (j))))).put (some 27) (.slice (some ⟨g,0,none⟩) n cap)).put (some 28) (.int .i64 ((j:Int)))).put (some 29) (.int .i64 ((j:Int)-1))).put (some 30) (.pointer (some ⟨g,(j-1)*5,none⟩))).put (some 31) (dZ (F ((bH dk j i (i+1)) (j-1))))).put (some 32) (.int .i64 (jX (F ((bH dk j i (i+1)) (j))).p (F ((bH dk j i (i+1)) (j-1))).p))).put (some 33) (.bool true)).put (some 34) (.bool true))) ?reg ?rest
      case reg=>
       intro A eA
       have b0:A.eval (.tmp 0)=(.slice (some ⟨g,0,none⟩) n cap):=by rw[eA];rfl
       have b1:A.eval (.tmp 1)=(.int .i64 ((a:Int))):=by rw[eA];rfl
       have b3:A.eval (.tmp 3)=(.func (.func 32) #[] #[]):=by rw[eA];rfl
       have b9:A.eval (.tmp 9)=(.int .i64 ((j:Int))):=by rw[eA];rfl
       have hs:53≤A.tmps.size:=by rw[eA];exact of_decide_eq_true rfl
       clear eA
       have hS:SoR wr.drew g cap n F ((bH dk j i (i+1))):=unhide HS
       refine iQ (S:=λW=>SoR W g cap n F ((bH dk j i (i+1)))) (.mv 0 (.mv 1 (.mv 2 (.mv 3 (.mv 4 (.mv 5 (.mv 6 (.mv 7 (.rd 8 (.mv 9 (.mv 10 (.mv 11 (.mv 12 (.rd 13 (.go 14 (.mv 15 (.mv 16 .fin))))))))))))))))) [] (by kernel_rfl) (by kernel_rfl) ?_
       refine aL (v:=(.int .i64 ((j:Int)))) rfl Yn Yw (λwx=>aH (.tmp 9) rfl b9 wx) ?_
       show SeqJ _ _ _ _ _ _ (Act.put _ (some 18) _) _
       refine aL (v:=(.int .i64 ((a:Int)))) rfl Yn Yw (λwx=>aH (.tmp 1) rfl (Ex b1) wx) ?_
       show SeqJ _ _ _ _ _ _ (Act.put _ (some 19) _) _
       refine aL (v:=(.bool true)) rfl Yn Yw (λwx=>aCl (.tmp 18) (.tmp 19) rfl (Ex Et) Es (decide_eq_true Yo) wx) ?_
       show SeqJ _ _ _ _ _ _ (Act.put _ (some 20) _) _
       refine aL (v:=(.bool true)) rfl Yn Yw (λwx=>aH (.tmp 20) rfl Es wx) ?_
       show SeqJ _ _ _ _ _ _ (Act.put _ (some 21) _) _
       refine aL (v:=(.func (.func 32) #[] #[])) rfl Yn (bC (j:=3) rfl rfl rfl Es) (λwx=>aH (.tmp 3) rfl (Ex (Ex (Ex (Ex b3)))) wx) ?_
       show SeqJ _ _ _ _ _ _ (Act.put _ (some 22) _) _
       refine aL (v:=(.slice (some ⟨g,0,none⟩) n cap)) rfl Yn (bC (j:=3) rfl rfl rfl (Ex Es)) (λwx=>aH (.tmp 0) rfl (Ex (Ex (Ex (Ex (Ex b0))))) wx) ?_
       show SeqJ _ _ _ _ _ _ (Act.put _ (some 23) _) _
       refine aL (v:=(.int .i64 ((j:Int)))) rfl Yn (bC (j:=3) rfl rfl rfl (Ex (Ex Es))) (λwx=>aH (.tmp 9) rfl (Ex (Ex (Ex (Ex (Ex (Ex b9)))))) wx) ?_
       show SeqJ _ _ _ _ _ _ (Act.put _ (some 24) _) _
       refine aL (v:=(.pointer (some ⟨g,(j)*5,none⟩))) rfl Yn (bC (j:=3) rfl rfl rfl (Ex (Ex (Ex Es)))) (λwx=>dK (i:=j) (.tmp 23) (.tmp 24) rfl (Ex Es) Es Yo Yo wx) ?_
       show SeqJ _ _ _ _ _ _ (Act.put _ (some 25) _) _
       refine fC (v:=(dZ (F ((bH dk j i (i+1)) (j))))) rfl Yn (bC (j:=3) rfl rfl rfl (Ex (Ex (Ex (Ex Es))))) hS (λwx hx=>eO (.tmp 25) rfl Es hx Yo) ?_
       show SeqJ _ _ _ _ _ _ (Act.put _ (some 26) _) _
       refine aL (v:=(.slice (some ⟨g,0,none⟩) n cap)) rfl Yn (bC (j:=3) rfl rfl rfl (Ex (Ex (Ex (Ex (Ex Es)))))) (λwx=>aH (.tmp 0) rfl (Ex (Ex (Ex (Ex (Ex (Ex (Ex (Ex (Ex b0))))))))) wx) ?_
       show SeqJ _ _ _ _ _ _ (Act.put _ (some 27) _) _
       refine aL (v:=(.int .i64 ((j:Int)))) rfl Yn (bC (j:=3) rfl rfl rfl (Ex (Ex (Ex (Ex (Ex (Ex Es))))))) (λwx=>aH (.tmp 9) rfl (Ex (Ex (Ex (Ex (Ex (Ex (Ex (Ex (Ex (Ex b9)))))))))) wx) ?_
       show SeqJ _ _ _ _ _ _ (Act.put _ (some 28) _) _
       refine aL (v:=(.int .i64 ((j:Int)-1))) rfl Yn (bC (j:=3) rfl rfl rfl (Ex (Ex (Ex (Ex (Ex (Ex (Ex Es)))))))) (λwx=>nU (.tmp 28) (.const (.int .i64 1)) rfl Es rfl Yo Yo wx) ?_
       show SeqJ _ _ _ _ _ _ (Act.put _ (some 29) _) _
       refine aL (v:=(.pointer (some ⟨g,(j-1)*5,none⟩))) rfl Yn (bC (j:=3) rfl rfl rfl (Ex (Ex (Ex (Ex (Ex (Ex (Ex (Ex Es))))))))) (λwx=>dK (i:=j-1) (.tmp 27) (.tmp 29) rfl (Ex (Ex Es)) Es Yo Yo wx) ?_
       show SeqJ _ _ _ _ _ _ (Act.put _ (some 30) _) _
       refine fC (v:=(dZ (F ((bH dk j i (i+1)) (j-1))))) rfl Yn (bC (j:=3) rfl rfl rfl (Ex (Ex (Ex (Ex (Ex (Ex (Ex (Ex (Ex Es)))))))))) hS (λwx hx=>eO (.tmp 30) rfl Es hx Yo) ?_
       show SeqJ _ _ _ _ _ _ (Act.put _ (some 31) _) _
       refine kH rfl (bC (j:=3) rfl rfl rfl (Ex (Ex (Ex (Ex (Ex (Ex (Ex (Ex (Ex (Ex Es))))))))))) (λK hK=>?_)
       refine mG _ (.tmp 22) (.tmp 26) (.tmp 31) _ rfl (Ex (Ex (Ex (Ex (Ex (Ex (Ex (Ex (Ex Es))))))))) (Ex (Ex (Ex (Ex (Ex Es))))) Es (lF (F ((bH dk j i (i+1)) (j))).p (F ((bH dk j i (i+1)) (j-1))).p _ _ _ _ _ _ _) ?_
       rintro e w1 ⟨rfl,k1⟩
       have h1:=hS.below k1
       refine⟨_,rfl,?_⟩
       refine hK _ _ (λ_ _=>h1) ?_
       clear hK K
       show SeqJ _ _ _ _ _ _ (Act.put _ (some 32) _) _
       refine aL (v:=(.bool true)) rfl Yn (bC (j:=3) rfl rfl rfl (Ex (Ex (Ex (Ex (Ex (Ex (Ex (Ex (Ex (Ex (Ex Es)))))))))))) (λwx=>fH (.tmp 32) (.const (.int .i64 0)) rfl Es rfl (decide_eq_true (unhide HL)) wx) ?_
       show SeqJ _ _ _ _ _ _ (Act.put _ (some 33) _) _
       refine aL (v:=(.bool true)) rfl Yn Yw (λwx=>aX (.tmp 21) (.tmp 33) (.const (.bool false)) rfl (Ex (Ex (Ex (Ex (Ex (Ex (Ex (Ex (Ex (Ex (Ex (Ex Es)))))))))))) Es wx) ?_
       show SeqJ _ _ _ _ _ _ (Act.put _ (some 34) _) _
       exact jV ⟨rfl,h1,Kept.of_below (show Below wr.heap.size wr w1 from (aQ (Below.refl _ _)).trans k1),rfl⟩
      case rest=>
       rintro a' w5 ⟨m2,k2,rfl⟩
       have HS5:=aA m2
       have KS5:=aA ((unhide KS).trans k2 (Or.inl rfl))
       clear m2 k2
       go_frame
       go_wp2_with fail
       refine wp_leaves (λa0 a' w'=>SoR w' g cap n F (wH (bH dk j i (i+1)) j (j-1))∧Kept g w5 w'∧a'=((((((((((((((((a0.put (some 37) (.slice (some ⟨g,0,none⟩) n cap)).put (some 38) (.int .i64 ((j:Int)))).put (some 39) (.slice (some ⟨g,0,none⟩) n cap)).put (some 40) (.int .i64 ((j:Int)))).put (some 41) (.int .i64 ((j:Int)-1))).put (some 42) (.slice (some ⟨g,0,none⟩) n cap)).put (some 43) (.int .i64 ((j:Int)))).put (some 44) (.int .i64 ((j:Int)-1))).put (some 45) (.pointer (some ⟨g,(j-1)*5,none⟩))).put (some 46) (dZ (F ((bH dk j i (i+1)) (j-1))))).put (some 47) (.slice (some ⟨g,0,none⟩) n cap)).put (some 48) (.int .i64 ((j:Int)))).put (some 49) (.pointer (some ⟨g,(j)*5,none⟩))).put (some 50) (dZ (F ((bH dk j i (i+1)) (j))))).put (some 51) (.pointer (some ⟨g,(j)*5,none⟩))).put (some 52) (.pointer (some ⟨g,(j-1)*5,none⟩)))) ?reg ?rest
       case reg=>
        intro A eA
        have b0:A.eval (.tmp 0)=(.slice (some ⟨g,0,none⟩) n cap):=by rw[eA];rfl
        have b9:A.eval (.tmp 9)=(.int .i64 ((j:Int))):=by rw[eA];rfl
        have hs:53≤A.tmps.size:=by rw[eA];exact of_decide_eq_true rfl
        clear eA
        have hS:SoR w5.drew g cap n F ((bH dk j i (i+1))):=unhide HS5
        refine iQ (S:=λW=>SoR W g cap n F ((bH dk j i (i+1)))) (.mv 0 (.mv 1 (.mv 2 (.mv 3 (.mv 4 (.mv 5 (.mv 6 (.mv 7 (.mv 8 (.rd 9 (.mv 10 (.mv 11 (.mv 12 (.rd 13 (.mv 14 (.go 15 (.mv 16 (.go 17 .fin)))))))))))))))))) [15,17] (by kernel_rfl) (by kernel_rfl) ?_
        refine aL (v:=(.slice (some ⟨g,0,none⟩) n cap)) rfl Yn Yw (λwx=>aH (.tmp 0) rfl b0 wx) ?_
        show SeqJ _ _ _ _ _ _ (Act.put _ (some 37) _) _
        refine aL (v:=(.int .i64 ((j:Int)))) rfl Yn Yw (λwx=>aH (.tmp 9) rfl (Ex b9) wx) ?_
        show SeqJ _ _ _ _ _ _ (Act.put _ (some 38) _) _
        refine aL (v:=(.slice (some ⟨g,0,none⟩) n cap)) rfl Yn Yw (λwx=>aH (.tmp 0) rfl (Ex (Ex b0)) wx) ?_
        show SeqJ _ _ _ _ _ _ (Act.put _ (some 39) _) _
        refine aL (v:=(.int .i64 ((j:Int)))) rfl Yn Yw (λwx=>aH (.tmp 9) rfl (Ex (Ex (Ex b9))) wx) ?_
        show SeqJ _ _ _ _ _ _ (Act.put _ (some 40) _) _
        refine aL (v:=(.int .i64 ((j:Int)-1))) rfl Yn Yw (λwx=>nU (.tmp 40) (.const (.int .i64 1)) rfl Es rfl Yo Yo wx) ?_
        show SeqJ _ _ _ _ _ _ (Act.put _ (some 41) _) _
        refine aL (v:=(.slice (some ⟨g,0,none⟩) n cap)) rfl Yn Yw (λwx=>aH (.tmp 0) rfl (Ex (Ex (Ex (Ex (Ex b0))))) wx) ?_
        show SeqJ _ _ _ _ _ _ (Act.put _ (some 42) _) _
        refine aL (v:=(.int .i64 ((j:Int)))) rfl Yn Yw (λwx=>aH (.tmp 9) rfl (Ex (Ex (Ex (Ex (Ex (Ex b9)))))) wx) ?_
        show SeqJ _ _ _ _ _ _ (Act.put _ (some 43) _) _
        refine aL (v:=(.int .i64 ((j:Int)-1))) rfl Yn Yw (λwx=>nU (.tmp 43) (.const (.int .i64 1)) rfl Es rfl Yo Yo wx) ?_
        show SeqJ _ _ _ _ _ _ (Act.put _ (some 44) _) _
        refine aL (v:=(.pointer (some ⟨g,(j-1)*5,none⟩))) rfl Yn Yw (λwx=>dK (i:=j-1) (.tmp 42) (.tmp 44) rfl (Ex (Ex Es)) Es Yo Yo wx) ?_
        show SeqJ _ _ _ _ _ _ (Act.put _ (some 45) _) _
        refine fC (v:=(dZ (F ((bH dk j i (i+1)) (j-1))))) rfl Yn Yw hS (λwx hx=>eO (.tmp 45) rfl Es hx Yo) ?_
        show SeqJ _ _ _ _ _ _ (Act.put _ (some 46) _) _
        refine aL (v:=(.slice (some ⟨g,0,none⟩) n cap)) rfl Yn Yw (λwx=>aH (.tmp 0) rfl (Ex (Ex (Ex (Ex (Ex (Ex (Ex (Ex (Ex (Ex b0)))))))))) wx) ?_
        show SeqJ _ _ _ _ _ _ (Act.put _ (some 47) _) _
        refine aL (v:=(.int .i64 ((j:Int)))) rfl Yn Yw (λwx=>aH (.tmp 9) rfl (Ex (Ex (Ex (Ex (Ex (Ex (Ex (Ex (Ex (Ex (Ex b9))))))))))) wx) ?_
        show SeqJ _ _ _ _ _ _ (Act.put _ (some 48) _) _
        refine aL (v:=(.pointer (some ⟨g,(j)*5,none⟩))) rfl Yn Yw (λwx=>dK (i:=j) (.tmp 47) (.tmp 48) rfl (Ex Es) Es Yo Yo wx) ?_
        show SeqJ _ _ _ _ _ _ (Act.put _ (some 49) _) _
        refine fC (v:=(dZ (F ((bH dk j i (i+1)) (j))))) rfl Yn Yw hS (λwx hx=>eO (.tmp 49) rfl Es hx Yo) ?_
        show SeqJ _ _ _ _ _ _ (Act.put _ (some 50) _) _
        refine aL (v:=(.pointer (some ⟨g,(j)*5,none⟩))) rfl Yn Yw (λwx=>dK (i:=j) (.tmp 37) (.tmp 38) rfl (Ex (Ex (Ex (Ex (Ex (Ex (Ex (Ex (Ex (Ex (Ex (Ex (Ex Et))))))))))))) (Ex (Ex (Ex (Ex (Ex (Ex (Ex (Ex (Ex (Ex (Ex (Ex Es)))))))))))) Yo Yo wx) ?_
        show SeqJ _ _ _ _ _ _ (Act.put _ (some 51) _) _
        refine kH rfl Yw (λK hK=>?_)
        refine mH _ (.tmp 51) (.tmp 46) rfl Es (Ex (Ex (Ex (Ex (Ex Es))))) hS Yo rfl ?_
        intro w1 m1 k1 z1
        refine hK _ _ (λh=>absurd h Yc) ?_
        clear hK K
        refine aL (v:=(.pointer (some ⟨g,(j-1)*5,none⟩))) rfl Yn Yw (λwx=>dK (i:=j-1) (.tmp 39) (.tmp 41) rfl (Ex (Ex (Ex (Ex (Ex (Ex (Ex (Ex (Ex (Ex (Ex (Ex Es)))))))))))) (Ex (Ex (Ex (Ex (Ex (Ex (Ex (Ex (Ex (Ex Es)))))))))) Yo Yo wx) ?_
        show SeqJ _ _ _ _ _ _ (Act.put _ (some 52) _) _
        refine kH rfl Yw (λK hK=>?_)
        refine mH _ (.tmp 52) (.tmp 50) rfl Es (Ex (Ex Es)) m1 Yo rfl ?_
        intro w2 m2 k2 z2
        refine hK _ _ (λh=>absurd h Yc) ?_
        clear hK K
        have m3:=m2
        rw[aAT] at m3
        exact jV ⟨rfl,m3,((Kept.of_below (show Below w5.heap.size w5 w5.drew from (aQ (Below.refl _ _)))).trans k1 (Or.inl rfl)).trans k2 (Or.inl rfl),rfl⟩
       case rest=>
        rintro a' w6 ⟨m2,k2,rfl⟩
        have HS6:=aA m2
        have KS6:=aA ((unhide KS5).trans k2 (Or.inl rfl))
        clear m2 k2
        go_frame
        go_wp2_with fail
        go_roundg (j-1)
        case measure=>omega
        case rel=>exact⟨j-1,by first|rfl|(congr 1;omega),Yo,Yo,Yo,aA (by rw[←aDb Yo Yo];exact unhide HS6),aA (λx x1 x2=>(by
         by_cases e:x=j-1
         ·subst e
          have:=aCh (q:=λy=>(F y).p) (unhide HL)
          rw[unhide EA,unhide EB] at this
          exact this
         ·exact unhide HT x Yo x2)),KS6⟩
     ·have HL:=aA (Int.not_lt.1 hl)
      clear hl
      go_wp2_with fail
      refine wp_leaves (λa0 a' w'=>SoR w' g cap n F ((bH dk j i (i+1)))∧Kept g wr w'∧a'=(((((((((((((((((a0.put (some 18) (.int .i64 ((j:Int)))).put (some 19) (.int .i64 ((a:Int)))).put (some 20) (.bool true)).put (some 21) (.bool true)).put (some 22) (.func (.func 32) #[] #[])).put (some 23) (.slice (some ⟨g,0,none⟩) n cap)).put (some 24) (.int .i64 ((j:Int)))).put (some 25) (.pointer (some ⟨g,(j)*5,none⟩))).put (some 26) (dZ (F ((bH dk j i (i+1)) (j))))).put (some 27) (.slice (some ⟨g,0,none⟩) n cap)).put (some 28) (.int .i64 ((j:Int)))).put (some 29) (.int .i64 ((j:Int)-1))).put (some 30) (.pointer (some ⟨g,(j-1)*5,none⟩))).put (some 31) (dZ (F ((bH dk j i (i+1)) (j-1))))).put (some 32) (.int .i64 (jX (F ((bH dk j i (i+1)) (j))).p (F ((bH dk j i (i+1)) (j-1))).p))).put (some 33) (.bool false)).put (some 34) (.bool false))) ?reg ?rest
      case reg=>
       intro A eA
       have b0:A.eval (.tmp 0)=(.slice (some ⟨g,0,none⟩) n cap):=by rw[eA];rfl
       have b1:A.eval (.tmp 1)=(.int .i64 ((a:Int))):=by rw[eA];rfl
       have b3:A.eval (.tmp 3)=(.func (.func 32) #[] #[]):=by rw[eA];rfl
       have b9:A.eval (.tmp 9)=(.int .i64 ((j:Int))):=by rw[eA];rfl
       have hs:53≤A.tmps.size:=by rw[eA];exact of_decide_eq_true rfl
       clear eA
       have hS:SoR wr.drew g cap n F ((bH dk j i (i+1))):=unhide HS
       refine iQ (S:=λW=>SoR W g cap n F ((bH dk j i (i+1)))) (.mv 0 (.mv 1 (.mv 2 (.mv 3 (.mv 4 (.mv 5 (.mv 6 (.mv 7 (.rd 8 (.mv 9 (.mv 10 (.mv 11 (.mv 12 (.rd 13 (.go 14 (.mv 15 (.mv 16 .fin))))))))))))))))) [] (by kernel_rfl) (by kernel_rfl) ?_
       refine aL (v:=(.int .i64 ((j:Int)))) rfl Yn Yw (λwx=>aH (.tmp 9) rfl b9 wx) ?_
       show SeqJ _ _ _ _ _ _ (Act.put _ (some 18) _) _
       refine aL (v:=(.int .i64 ((a:Int)))) rfl Yn Yw (λwx=>aH (.tmp 1) rfl (Ex b1) wx) ?_
       show SeqJ _ _ _ _ _ _ (Act.put _ (some 19) _) _
       refine aL (v:=(.bool true)) rfl Yn Yw (λwx=>aCl (.tmp 18) (.tmp 19) rfl (Ex Et) Es (decide_eq_true Yo) wx) ?_
       show SeqJ _ _ _ _ _ _ (Act.put _ (some 20) _) _
       refine aL (v:=(.bool true)) rfl Yn Yw (λwx=>aH (.tmp 20) rfl Es wx) ?_
       show SeqJ _ _ _ _ _ _ (Act.put _ (some 21) _) _
       refine aL (v:=(.func (.func 32) #[] #[])) rfl Yn (bC (j:=3) rfl rfl rfl Es) (λwx=>aH (.tmp 3) rfl (Ex (Ex (Ex (Ex b3)))) wx) ?_
       show SeqJ _ _ _ _ _ _ (Act.put _ (some 22) _) _
       refine aL (v:=(.slice (some ⟨g,0,none⟩) n cap)) rfl Yn (bC (j:=3) rfl rfl rfl (Ex Es)) (λwx=>aH (.tmp 0) rfl (Ex (Ex (Ex (Ex (Ex b0))))) wx) ?_
       show SeqJ _ _ _ _ _ _ (Act.put _ (some 23) _) _
       refine aL (v:=(.int .i64 ((j:Int)))) rfl Yn (bC (j:=3) rfl rfl rfl (Ex (Ex Es))) (λwx=>aH (.tmp 9) rfl (Ex (Ex (Ex (Ex (Ex (Ex b9)))))) wx) ?_
       show SeqJ _ _ _ _ _ _ (Act.put _ (some 24) _) _
       refine aL (v:=(.pointer (some ⟨g,(j)*5,none⟩))) rfl Yn (bC (j:=3) rfl rfl rfl (Ex (Ex (Ex Es)))) (λwx=>dK (i:=j) (.tmp 23) (.tmp 24) rfl (Ex Es) Es Yo Yo wx) ?_
       show SeqJ _ _ _ _ _ _ (Act.put _ (some 25) _) _
       refine fC (v:=(dZ (F ((bH dk j i (i+1)) (j))))) rfl Yn (bC (j:=3) rfl rfl rfl (Ex (Ex (Ex (Ex Es))))) hS (λwx hx=>eO (.tmp 25) rfl Es hx Yo) ?_
       show SeqJ _ _ _ _ _ _ (Act.put _ (some 26) _) _
       refine aL (v:=(.slice (some ⟨g,0,none⟩) n cap)) rfl Yn (bC (j:=3) rfl rfl rfl (Ex (Ex (Ex (Ex (Ex Es)))))) (λwx=>aH (.tmp 0) rfl (Ex (Ex (Ex (Ex (Ex (Ex (Ex (Ex (Ex b0))))))))) wx) ?_
       show SeqJ _ _ _ _ _ _ (Act.put _ (some 27) _) _
       refine aL (v:=(.int .i64 ((j:Int)))) rfl Yn (bC (j:=3) rfl rfl rfl (Ex (Ex (Ex (Ex (Ex (Ex Es))))))) (λwx=>aH (.tmp 9) rfl (Ex (Ex (Ex (Ex (Ex (Ex (Ex (Ex (Ex (Ex b9)))))))))) wx) ?_
       show SeqJ _ _ _ _ _ _ (Act.put _ (some 28) _) _
       refine aL (v:=(.int .i64 ((j:Int)-1))) rfl Yn (bC (j:=3) rfl rfl rfl (Ex (Ex (Ex (Ex (Ex (Ex (Ex Es)))))))) (λwx=>nU (.tmp 28) (.const (.int .i64 1)) rfl Es rfl Yo Yo wx) ?_
       show SeqJ _ _ _ _ _ _ (Act.put _ (some 29) _) _
       refine aL (v:=(.pointer (some ⟨g,(j-1)*5,none⟩))) rfl Yn (bC (j:=3) rfl rfl rfl (Ex (Ex (Ex (Ex (Ex (Ex (Ex (Ex Es))))))))) (λwx=>dK (i:=j-1) (.tmp 27) (.tmp 29) rfl (Ex (Ex Es)) Es Yo Yo wx) ?_
       show SeqJ _ _ _ _ _ _ (Act.put _ (some 30) _) _
       refine fC (v:=(dZ (F ((bH dk j i (i+1)) (j-1))))) rfl Yn (bC (j:=3) rfl rfl rfl (Ex (Ex (Ex (Ex (Ex (Ex (Ex (Ex (Ex Es)))))))))) hS (λwx hx=>eO (.tmp 30) rfl Es hx Yo) ?_
       show SeqJ _ _ _ _ _ _ (Act.put _ (some 31) _) _
       refine kH rfl (bC (j:=3) rfl rfl rfl (Ex (Ex (Ex (Ex (Ex (Ex (Ex (Ex (Ex (Ex Es))))))))))) (λK hK=>?_)
       refine mG _ (.tmp 22) (.tmp 26) (.tmp 31) _ rfl (Ex (Ex (Ex (Ex (Ex (Ex (Ex (Ex (Ex Es))))))))) (Ex (Ex (Ex (Ex (Ex Es))))) Es (lF (F ((bH dk j i (i+1)) (j))).p (F ((bH dk j i (i+1)) (j-1))).p _ _ _ _ _ _ _) ?_
       rintro e w1 ⟨rfl,k1⟩
       have h1:=hS.below k1
       refine⟨_,rfl,?_⟩
       refine hK _ _ (λ_ _=>h1) ?_
       clear hK K
       show SeqJ _ _ _ _ _ _ (Act.put _ (some 32) _) _
       refine aL (v:=(.bool false)) rfl Yn (bC (j:=3) rfl rfl rfl (Ex (Ex (Ex (Ex (Ex (Ex (Ex (Ex (Ex (Ex (Ex Es)))))))))))) (λwx=>fH (.tmp 32) (.const (.int .i64 0)) rfl Es rfl (decide_eq_false (Int.not_lt.2 (unhide HL))) wx) ?_
       show SeqJ _ _ _ _ _ _ (Act.put _ (some 33) _) _
       refine aL (v:=(.bool false)) rfl Yn Yw (λwx=>aX (.tmp 21) (.tmp 33) (.const (.bool false)) rfl (Ex (Ex (Ex (Ex (Ex (Ex (Ex (Ex (Ex (Ex (Ex (Ex Es)))))))))))) Es wx) ?_
       show SeqJ _ _ _ _ _ _ (Act.put _ (some 34) _) _
       exact jV ⟨rfl,h1,Kept.of_below (show Below wr.heap.size wr w1 from (aQ (Below.refl _ _)).trans k1),rfl⟩
      case rest=>
       rintro a' w2 ⟨m2,k2,rfl⟩
       have HS2:=aA m2
       have KS2:=aA ((unhide KS).trans k2 (Or.inl rfl))
       clear m2 k2
       go_frame
       go_wp2_with fail
       go_roundg (b-(i+1))
       case measure=>omega
       case rel=>exact⟨i+1,_,by go_num,Yo,Yo,Yo,Yo,HS2,aA (unhide OUT (Or.inr (unhide HL))),KS2⟩
    ·have hjaz:¬(a:Int)<(j:Int):=Yo
     go_wp2_with fail
     refine wp_leaves (λa0 a' w'=>SoR w' g cap n F ((bH dk j i (i+1)))∧Kept g wr w'∧a'=(((((((((((((((((a0.put (some 18) (.int .i64 ((j:Int)))).put (some 19) (.int .i64 ((a:Int)))).put (some 20) (.bool false)).put (some 21) (.bool false)).put (some 22) undef).put (some 23) undef).put (some 24) undef).put (some 25) undef).put (some 26) undef).put (some 27) undef).put (some 28) undef).put (some 29) undef).put (some 30) undef).put (some 31) undef).put (some 32) undef).put (some 33) undef).put (some 34) (.bool false))) ?reg ?rest
     case reg=>
      intro A eA
      have b1:A.eval (.tmp 1)=(.int .i64 ((a:Int))):=by rw[eA];rfl
      have b9:A.eval (.tmp 9)=(.int .i64 ((j:Int))):=by rw[eA];rfl
      have hs:53≤A.tmps.size:=by rw[eA];exact of_decide_eq_true rfl
      clear eA
      have hS:SoR wr.drew g cap n F ((bH dk j i (i+1))):=unhide HS
      refine iQ (S:=λW=>SoR W g cap n F ((bH dk j i (i+1)))) (.mv 0 (.mv 1 (.mv 2 (.mv 3 (.mv 4 (.mv 5 (.mv 6 (.mv 7 (.mv 8 (.mv 9 (.mv 10 (.mv 11 (.mv 12 (.mv 13 (.mv 14 (.mv 15 (.mv 16 .fin))))))))))))))))) [] (by kernel_rfl) (by kernel_rfl) ?_
      refine aL (v:=(.int .i64 ((j:Int)))) rfl Yn Yw (λwx=>aH (.tmp 9) rfl b9 wx) ?_
      show SeqJ _ _ _ _ _ _ (Act.put _ (some 18) _) _
      refine aL (v:=(.int .i64 ((a:Int)))) rfl Yn Yw (λwx=>aH (.tmp 1) rfl (Ex b1) wx) ?_
      show SeqJ _ _ _ _ _ _ (Act.put _ (some 19) _) _
      refine aL (v:=(.bool false)) rfl Yn Yw (λwx=>aCl (.tmp 18) (.tmp 19) rfl (Ex Et) Es (decide_eq_false Yo) wx) ?_
      show SeqJ _ _ _ _ _ _ (Act.put _ (some 20) _) _
      refine aL (v:=(.bool false)) rfl Yn Yw (λwx=>aH (.tmp 20) rfl Es wx) ?_
      show SeqJ _ _ _ _ _ _ (Act.put _ (some 21) _) _
      refine jU rfl Yn (eB (j:=3) rfl rfl rfl Es Yc) ?_
      show SeqJ _ _ _ _ _ _ (Act.put _ (some 22) _) _
      refine jU rfl Yn (eB (j:=3) rfl rfl rfl (Ex Es) Yc) ?_
      show SeqJ _ _ _ _ _ _ (Act.put _ (some 23) _) _
      refine jU rfl Yn (eB (j:=3) rfl rfl rfl (Ex (Ex Es)) Yc) ?_
      show SeqJ _ _ _ _ _ _ (Act.put _ (some 24) _) _
      refine jU rfl Yn (eB (j:=3) rfl rfl rfl (Ex (Ex (Ex Es))) Yc) ?_
      show SeqJ _ _ _ _ _ _ (Act.put _ (some 25) _) _
      refine jU rfl Yn (eB (j:=3) rfl rfl rfl (Ex (Ex (Ex (Ex Es)))) Yc) ?_
      show SeqJ _ _ _ _ _ _ (Act.put _ (some 26) _) _
      refine jU rfl Yn (eB (j:=3) rfl rfl rfl (Ex (Ex (Ex (Ex (Ex Es))))) Yc) ?_
      show SeqJ _ _ _ _ _ _ (Act.put _ (some 27) _) _
      refine jU rfl Yn (eB (j:=3) rfl rfl rfl (Ex (Ex (Ex (Ex (Ex (Ex Es)))))) Yc) ?_
      show SeqJ _ _ _ _ _ _ (Act.put _ (some 28) _) _
      refine jU rfl Yn (eB (j:=3) rfl rfl rfl (Ex (Ex (Ex (Ex (Ex (Ex (Ex Es))))))) Yc) ?_
      show SeqJ _ _ _ _ _ _ (Act.put _ (some 29) _) _
      refine jU rfl Yn (eB (j:=3) rfl rfl rfl (Ex (Ex (Ex (Ex (Ex (Ex (Ex (Ex Es)))))))) Yc) ?_
      show SeqJ _ _ _ _ _ _ (Act.put _ (some 30) _) _
      refine jU rfl Yn (eB (j:=3) rfl rfl rfl (Ex (Ex (Ex (Ex (Ex (Ex (Ex (Ex (Ex Es))))))))) Yc) ?_
      show SeqJ _ _ _ _ _ _ (Act.put _ (some 31) _) _
      refine jU rfl Yn (eB (j:=3) rfl rfl rfl (Ex (Ex (Ex (Ex (Ex (Ex (Ex (Ex (Ex (Ex Es)))))))))) Yc) ?_
      show SeqJ _ _ _ _ _ _ (Act.put _ (some 32) _) _
      refine jU rfl Yn (eB (j:=3) rfl rfl rfl (Ex (Ex (Ex (Ex (Ex (Ex (Ex (Ex (Ex (Ex (Ex Es))))))))))) Yc) ?_
      show SeqJ _ _ _ _ _ _ (Act.put _ (some 33) _) _
      refine aL (v:=(.bool false)) rfl Yn Yw (λwx=>bI (.tmp 21) (.tmp 33) (.const (.bool false)) rfl (Ex (Ex (Ex (Ex (Ex (Ex (Ex (Ex (Ex (Ex (Ex (Ex Es)))))))))))) rfl wx) ?_
      show SeqJ _ _ _ _ _ _ (Act.put _ (some 34) _) _
      exact jV ⟨rfl,hS,Kept.of_below (show Below wr.heap.size wr wr.drew from (aQ (Below.refl _ _))),rfl⟩
     case rest=>
      rintro a' w2 ⟨m2,k2,rfl⟩
      have HS2:=aA m2
      have KS2:=aA ((unhide KS).trans k2 (Or.inl rfl))
      clear m2 k2
      go_frame
      go_wp2_with fail
      go_roundg (b-(i+1))
      case measure=>omega
      case rel=>exact⟨i+1,_,by go_num,Yo,Yo,Yo,Yo,HS2,aA (unhide OUT (Or.inl Yo)),KS2⟩
  ·have hltz:¬(i:Int)<(b:Int):=Yo
   go_wp2_with fail
   go_end0
   refine⟨rfl,dk,?_,?_,unhide HS,unhide KS⟩
   ·rcases Nat.lt_or_ge a b with hab|hab
    ·obtain rfl:i=b:=Yo
     exact ((unhide HI).2 Yo).1
    ·rw[(unhide HI).1 hab];exact Same.refl _ _ _
   ·rcases Nat.lt_or_ge a b with hab|hab
    ·obtain rfl:i=b:=Yo
     exact ((unhide HI).2 Yo).2
    ·exact SoT.none Yo
set_option maxHeartbeats 4000000 in
set_option maxRecDepth 1000000 in
theorem aHL (g cap n : Nat) (F : Nat → Lp) (d : Nat → Nat) (a m b : Nat) (w : World) (h : SoR w g cap n F d) (hm : Mg (TQ λy => (F y).p) d a m b) (h1 : a < m) (h2 : m < b) (h3 : b ≤ n) (hn : n ≤ 2513169434843) (ha : m ≤ a + 1) :
  Calls Tryz.prog 66 #[.slice (some ⟨g,0,none⟩) n cap,.int .i64 (a:Int),.int .i64 (m:Int),.int .i64 (b:Int),(.func (.func 32) #[] #[])] w λe w'=>e=.returned (.tuple #[])∧∃e:Nat→Nat,Same a b d e∧SoT (TQ λy=>(F y).p) e a b∧SoR w' g cap n F e∧Kept g w w':=by
 have HH:=aA h
 have HM:=aA hm
 clear h hm
 have em:(m:Int)-(a:Int)=1:=Yo
 go_enter Tryz.func66,Tryz.ntmps66
 go_wp2_with fail
 go_loopg [10,11] (b-m) (λr s10 s11 wr=>∃(i j:Nat),s10=.int .i64 (i:Int)∧s11=.int .i64 (j:Int)∧m≤i∧i≤j∧j≤b∧j-i≤r∧Hid (SoR wr g cap n F d)∧Hid ((∀x,m≤x→x<i→TQ (λy=>(F y).p) (d x) (d a))∧∀x,j≤x→x<b→TQ (λy=>(F y).p) (d a) (d x))∧Hid (Kept g w wr))
 case atStart=>exact⟨m,b,rfl,rfl,Yo,Yo,Yo,Yo,HH,aA ⟨λx x1 x2=>by omega,λx x1 x2=>by omega⟩,aA (Kept.of_below (Below.refl _ _))⟩
 case round=>
  obtain⟨i,j,rfl,rfl,hi,hij,hj,hr,HS,HI,KS⟩:=hrel
  by_cases hlt:i<j
  ·have hltz:(i:Int)<(j:Int):=Yo
   obtain⟨h,hh1,hh2⟩:∃h:Nat,2*h≤i+j∧i+j≤2*h+1:=⟨(i+j)/2,Yo,Yo⟩
   have hh3:((i:Int)+(j:Int))/2=(h:Int):=Yo
   by_cases hl:jX (F (d (h))).p (F (d (a))).p<0
   ·have HL:=aA hl
    clear hl
    go_wp2_with fail
    refine wp_leaves (λa0 a' w'=>SoR w' g cap n F (d)∧Kept g wr w'∧a'=(((((((((((a0.put (some 40) (.func (.func 32) #[] #[])).put (some 41) (.slice (some ⟨g,0,none⟩) n cap)).put (some 42) (.int .i64 ((h:Int)))).put (some 43) (.pointer (some ⟨g,(h)*5,none⟩))).put (some 44) (dZ (F (d (h))))).put (some 45) (.slice (some ⟨g,0,none⟩) n cap)).put (some 46) (.int .i64 ((a:Int)))).put (some 47) (.pointer (some ⟨g,(a)*5,none⟩))).put (some 48) (dZ (F (d (a))))).put (some 49) (.int .i64 (jX (F (d (h))).p (F (d (a))).p))).put (some 50) (.bool true))) ?reg ?rest
    case reg=>
     intro A eA
     have b0:A.eval (.tmp 0)=(.slice (some ⟨g,0,none⟩) n cap):=by rw[eA];rfl
     have b1:A.eval (.tmp 1)=(.int .i64 ((a:Int))):=by rw[eA];rfl
     have b4:A.eval (.tmp 4)=(.func (.func 32) #[] #[]):=by rw[eA];rfl
     have b12:A.eval (.tmp 12)=(.int .i64 ((h:Int))):=by rw[eA];rfl
     have hs:220≤A.tmps.size:=by rw[eA];exact of_decide_eq_true rfl
     clear eA
     have hS:SoR wr.drew g cap n F (d):=unhide HS
     refine iQ (S:=λW=>SoR W g cap n F (d)) (.mv 0 (.mv 1 (.mv 2 (.mv 3 (.rd 4 (.mv 5 (.mv 6 (.mv 7 (.rd 8 (.go 9 (.mv 10 .fin))))))))))) [] (by kernel_rfl) (by kernel_rfl) ?_
     refine aL (v:=(.func (.func 32) #[] #[])) rfl Yn Yw (λwx=>aH (.tmp 4) rfl b4 wx) ?_
     show SeqJ _ _ _ _ _ _ (Act.put _ (some 40) _) _
     refine aL (v:=(.slice (some ⟨g,0,none⟩) n cap)) rfl Yn Yw (λwx=>aH (.tmp 0) rfl (Ex b0) wx) ?_
     show SeqJ _ _ _ _ _ _ (Act.put _ (some 41) _) _
     refine aL (v:=(.int .i64 ((h:Int)))) rfl Yn Yw (λwx=>aH (.tmp 12) rfl (Ex (Ex b12)) wx) ?_
     show SeqJ _ _ _ _ _ _ (Act.put _ (some 42) _) _
     refine aL (v:=(.pointer (some ⟨g,(h)*5,none⟩))) rfl Yn Yw (λwx=>dK (i:=h) (.tmp 41) (.tmp 42) rfl (Ex Es) Es Yo Yo wx) ?_
     show SeqJ _ _ _ _ _ _ (Act.put _ (some 43) _) _
     refine fC (v:=(dZ (F (d (h))))) rfl Yn Yw hS (λwx hx=>eO (.tmp 43) rfl Es hx Yo) ?_
     show SeqJ _ _ _ _ _ _ (Act.put _ (some 44) _) _
     refine aL (v:=(.slice (some ⟨g,0,none⟩) n cap)) rfl Yn Yw (λwx=>aH (.tmp 0) rfl (Ex (Ex (Ex (Ex (Ex b0))))) wx) ?_
     show SeqJ _ _ _ _ _ _ (Act.put _ (some 45) _) _
     refine aL (v:=(.int .i64 ((a:Int)))) rfl Yn Yw (λwx=>aH (.tmp 1) rfl (Ex (Ex (Ex (Ex (Ex (Ex b1)))))) wx) ?_
     show SeqJ _ _ _ _ _ _ (Act.put _ (some 46) _) _
     refine aL (v:=(.pointer (some ⟨g,(a)*5,none⟩))) rfl Yn Yw (λwx=>dK (i:=a) (.tmp 45) (.tmp 46) rfl (Ex Es) Es Yo Yo wx) ?_
     show SeqJ _ _ _ _ _ _ (Act.put _ (some 47) _) _
     refine fC (v:=(dZ (F (d (a))))) rfl Yn Yw hS (λwx hx=>eO (.tmp 47) rfl Es hx Yo) ?_
     show SeqJ _ _ _ _ _ _ (Act.put _ (some 48) _) _
     refine kH rfl Yw (λK hK=>?_)
     refine mG _ (.tmp 40) (.tmp 44) (.tmp 48) _ rfl (Ex (Ex (Ex (Ex (Ex (Ex (Ex (Ex Et)))))))) (Ex (Ex (Ex (Ex Es)))) Es (lF (F (d (h))).p (F (d (a))).p _ _ _ _ _ _ _) ?_
     rintro e w1 ⟨rfl,k1⟩
     have h1:=hS.below k1
     refine⟨_,rfl,?_⟩
     refine hK _ _ (λ_ _=>h1) ?_
     clear hK K
     show SeqJ _ _ _ _ _ _ (Act.put _ (some 49) _) _
     refine aL (v:=(.bool true)) rfl Yn Yw (λwx=>fH (.tmp 49) (.const (.int .i64 0)) rfl Es rfl (decide_eq_true (unhide HL)) wx) ?_
     show SeqJ _ _ _ _ _ _ (Act.put _ (some 50) _) _
     exact jV ⟨rfl,h1,Kept.of_below (show Below wr.heap.size wr w1 from (aQ (Below.refl _ _)).trans k1),rfl⟩
    case rest=>
     rintro a' w2 ⟨m2,k2,rfl⟩
     have HS2:=aA m2
     have KS2:=aA ((unhide KS).trans k2 (Or.inl rfl))
     clear m2 k2
     go_frame
     go_wp2_with fail
     go_roundg (j-(h+1))
     case measure=>omega
     case rel=>exact⟨h+1,j,by go_num,rfl,Yo,Yo,hj,Yo,HS2,aA ⟨λx x1 x2=>(by
      have k:=aCh (q:=λy=>(F y).p) (unhide HL)
      by_cases e:x=h
      ·subst e;exact k
      ·exact (lH _).tr _ _ _ ((unhide HM).r x h x1 Yo Yo) k),(unhide HI).2⟩,KS2⟩
   ·have HL:=aA (Int.not_lt.1 hl)
    clear hl
    go_wp2_with fail
    refine wp_leaves (λa0 a' w'=>SoR w' g cap n F (d)∧Kept g wr w'∧a'=(((((((((((a0.put (some 40) (.func (.func 32) #[] #[])).put (some 41) (.slice (some ⟨g,0,none⟩) n cap)).put (some 42) (.int .i64 ((h:Int)))).put (some 43) (.pointer (some ⟨g,(h)*5,none⟩))).put (some 44) (dZ (F (d (h))))).put (some 45) (.slice (some ⟨g,0,none⟩) n cap)).put (some 46) (.int .i64 ((a:Int)))).put (some 47) (.pointer (some ⟨g,(a)*5,none⟩))).put (some 48) (dZ (F (d (a))))).put (some 49) (.int .i64 (jX (F (d (h))).p (F (d (a))).p))).put (some 50) (.bool false))) ?reg ?rest
    case reg=>
     intro A eA
     have b0:A.eval (.tmp 0)=(.slice (some ⟨g,0,none⟩) n cap):=by rw[eA];rfl
     have b1:A.eval (.tmp 1)=(.int .i64 ((a:Int))):=by rw[eA];rfl
     have b4:A.eval (.tmp 4)=(.func (.func 32) #[] #[]):=by rw[eA];rfl
     have b12:A.eval (.tmp 12)=(.int .i64 ((h:Int))):=by rw[eA];rfl
     have hs:220≤A.tmps.size:=by rw[eA];exact of_decide_eq_true rfl
     clear eA
     have hS:SoR wr.drew g cap n F (d):=unhide HS
     refine iQ (S:=λW=>SoR W g cap n F (d)) (.mv 0 (.mv 1 (.mv 2 (.mv 3 (.rd 4 (.mv 5 (.mv 6 (.mv 7 (.rd 8 (.go 9 (.mv 10 .fin))))))))))) [] (by kernel_rfl) (by kernel_rfl) ?_
     refine aL (v:=(.func (.func 32) #[] #[])) rfl Yn Yw (λwx=>aH (.tmp 4) rfl b4 wx) ?_
     show SeqJ _ _ _ _ _ _ (Act.put _ (some 40) _) _
     refine aL (v:=(.slice (some ⟨g,0,none⟩) n cap)) rfl Yn Yw (λwx=>aH (.tmp 0) rfl (Ex b0) wx) ?_
     show SeqJ _ _ _ _ _ _ (Act.put _ (some 41) _) _
     refine aL (v:=(.int .i64 ((h:Int)))) rfl Yn Yw (λwx=>aH (.tmp 12) rfl (Ex (Ex b12)) wx) ?_
     show SeqJ _ _ _ _ _ _ (Act.put _ (some 42) _) _
     refine aL (v:=(.pointer (some ⟨g,(h)*5,none⟩))) rfl Yn Yw (λwx=>dK (i:=h) (.tmp 41) (.tmp 42) rfl (Ex Es) Es Yo Yo wx) ?_
     show SeqJ _ _ _ _ _ _ (Act.put _ (some 43) _) _
     refine fC (v:=(dZ (F (d (h))))) rfl Yn Yw hS (λwx hx=>eO (.tmp 43) rfl Es hx Yo) ?_
     show SeqJ _ _ _ _ _ _ (Act.put _ (some 44) _) _
     refine aL (v:=(.slice (some ⟨g,0,none⟩) n cap)) rfl Yn Yw (λwx=>aH (.tmp 0) rfl (Ex (Ex (Ex (Ex (Ex b0))))) wx) ?_
     show SeqJ _ _ _ _ _ _ (Act.put _ (some 45) _) _
     refine aL (v:=(.int .i64 ((a:Int)))) rfl Yn Yw (λwx=>aH (.tmp 1) rfl (Ex (Ex (Ex (Ex (Ex (Ex b1)))))) wx) ?_
     show SeqJ _ _ _ _ _ _ (Act.put _ (some 46) _) _
     refine aL (v:=(.pointer (some ⟨g,(a)*5,none⟩))) rfl Yn Yw (λwx=>dK (i:=a) (.tmp 45) (.tmp 46) rfl (Ex Es) Es Yo Yo wx) ?_
     show SeqJ _ _ _ _ _ _ (Act.put _ (some 47) _) _
     refine fC (v:=(dZ (F (d (a))))) rfl Yn Yw hS (λwx hx=>eO (.tmp 47) rfl Es hx Yo) ?_
     show SeqJ _ _ _ _ _ _ (Act.put _ (some 48) _) _
     refine kH rfl Yw (λK hK=>?_)
     refine mG _ (.tmp 40) (.tmp 44) (.tmp 48) _ rfl (Ex (Ex (Ex (Ex (Ex (Ex (Ex (Ex Et)))))))) (Ex (Ex (Ex (Ex Es)))) Es (lF (F (d (h))).p (F (d (a))).p _ _ _ _ _ _ _) ?_
     rintro e w1 ⟨rfl,k1⟩
     have h1:=hS.below k1
     refine⟨_,rfl,?_⟩
     refine hK _ _ (λ_ _=>h1) ?_
     clear hK K
     show SeqJ _ _ _ _ _ _ (Act.put _ (some 49) _) _
     refine aL (v:=(.bool false)) rfl Yn Yw (λwx=>fH (.tmp 49) (.const (.int .i64 0)) rfl Es rfl (decide_eq_false (Int.not_lt.2 (unhide HL))) wx) ?_
     show SeqJ _ _ _ _ _ _ (Act.put _ (some 50) _) _
     exact jV ⟨rfl,h1,Kept.of_below (show Below wr.heap.size wr w1 from (aQ (Below.refl _ _)).trans k1),rfl⟩
    case rest=>
     rintro a' w2 ⟨m2,k2,rfl⟩
     have HS2:=aA m2
     have KS2:=aA ((unhide KS).trans k2 (Or.inl rfl))
     clear m2 k2
     go_frame
     go_wp2_with fail
     go_roundg (h-i)
     case measure=>omega
     case rel=>exact⟨i,h,rfl,rfl,hi,Yo,Yo,Yo,HS2,aA ⟨(unhide HI).1,λx x1 x2=>(by
      have k:=aDG (q:=λy=>(F y).p) ((unhide HM).x a h Yo h1 Yo Yo) (Int.not_lt.2 (unhide HL))
      by_cases e:x=h
      ·subst e;exact k
      ·exact (lH _).tr _ _ _ k ((unhide HM).r h x Yo Yo x2))⟩,KS2⟩
  ·have hltz:¬(i:Int)<(j:Int):=Yo
   obtain⟨i2,j2⟩:i≤j∧j≤i:=Yo
   go_wp2_with fail
   go_loopg [13] (i-1-a) (λr s13 wr=>∃k:Nat,s13=.int .i64 (k:Int)∧a≤k∧k+1≤i∧i-1-k≤r∧Hid (SoR wr g cap n F (bH d a (a+1) (k+1)))∧Hid (Kept g w wr))
   case atStart=>exact⟨a,rfl,Yo,Yo,Yo,aA (by rw[tV (Or.inr rfl) Yo Yo];exact unhide HS),KS⟩
   case round=>
    clear HS KS
    obtain⟨k,rfl,hk1,hk2,hr2,HS,KS⟩:=hrel
    by_cases hkl:k+1<i
    ·have hklz:(k:Int)<(i:Int)-1:=Yo
     go_wp2_with fail
     refine wp_leaves (λa0 a' w'=>SoR w' g cap n F (wH (bH d a (a+1) (k+1)) k (k+1))∧Kept g wr w'∧a'=((((((((((((((((a0.put (some 61) (.slice (some ⟨g,0,none⟩) n cap)).put (some 62) (.int .i64 ((k:Int)))).put (some 63) (.slice (some ⟨g,0,none⟩) n cap)).put (some 64) (.int .i64 ((k:Int)))).put (some 65) (.int .i64 ((k:Int)+1))).put (some 66) (.slice (some ⟨g,0,none⟩) n cap)).put (some 67) (.int .i64 ((k:Int)))).put (some 68) (.int .i64 ((k:Int)+1))).put (some 69) (.pointer (some ⟨g,(k+1)*5,none⟩))).put (some 70) (dZ (F ((bH d a (a+1) (k+1)) (k+1))))).put (some 71) (.slice (some ⟨g,0,none⟩) n cap)).put (some 72) (.int .i64 ((k:Int)))).put (some 73) (.pointer (some ⟨g,(k)*5,none⟩))).put (some 74) (dZ (F ((bH d a (a+1) (k+1)) (k))))).put (some 75) (.pointer (some ⟨g,(k)*5,none⟩))).put (some 76) (.pointer (some ⟨g,(k+1)*5,none⟩)))) ?reg ?rest
     case reg=>
      intro A eA
      have b0:A.eval (.tmp 0)=(.slice (some ⟨g,0,none⟩) n cap):=by rw[eA];rfl
      have b13:A.eval (.tmp 13)=(.int .i64 ((k:Int))):=by rw[eA];rfl
      have hs:220≤A.tmps.size:=by rw[eA];exact of_decide_eq_true rfl
      clear eA
      have hS:SoR wr.drew g cap n F ((bH d a (a+1) (k+1))):=unhide HS
      refine iQ (S:=λW=>SoR W g cap n F ((bH d a (a+1) (k+1)))) (.mv 0 (.mv 1 (.mv 2 (.mv 3 (.mv 4 (.mv 5 (.mv 6 (.mv 7 (.mv 8 (.rd 9 (.mv 10 (.mv 11 (.mv 12 (.rd 13 (.mv 14 (.go 15 (.mv 16 (.go 17 .fin)))))))))))))))))) [15,17] (by kernel_rfl) (by kernel_rfl) ?_
      refine aL (v:=(.slice (some ⟨g,0,none⟩) n cap)) rfl Yn Yw (λwx=>aH (.tmp 0) rfl b0 wx) ?_
      show SeqJ _ _ _ _ _ _ (Act.put _ (some 61) _) _
      refine aL (v:=(.int .i64 ((k:Int)))) rfl Yn Yw (λwx=>aH (.tmp 13) rfl (Ex b13) wx) ?_
      show SeqJ _ _ _ _ _ _ (Act.put _ (some 62) _) _
      refine aL (v:=(.slice (some ⟨g,0,none⟩) n cap)) rfl Yn Yw (λwx=>aH (.tmp 0) rfl (Ex (Ex b0)) wx) ?_
      show SeqJ _ _ _ _ _ _ (Act.put _ (some 63) _) _
      refine aL (v:=(.int .i64 ((k:Int)))) rfl Yn Yw (λwx=>aH (.tmp 13) rfl (Ex (Ex (Ex b13))) wx) ?_
      show SeqJ _ _ _ _ _ _ (Act.put _ (some 64) _) _
      refine aL (v:=(.int .i64 ((k:Int)+1))) rfl Yn Yw (λwx=>pU (.tmp 64) (.const (.int .i64 1)) rfl Es rfl Yo Yo wx) ?_
      show SeqJ _ _ _ _ _ _ (Act.put _ (some 65) _) _
      refine aL (v:=(.slice (some ⟨g,0,none⟩) n cap)) rfl Yn Yw (λwx=>aH (.tmp 0) rfl (Ex (Ex (Ex (Ex (Ex b0))))) wx) ?_
      show SeqJ _ _ _ _ _ _ (Act.put _ (some 66) _) _
      refine aL (v:=(.int .i64 ((k:Int)))) rfl Yn Yw (λwx=>aH (.tmp 13) rfl (Ex (Ex (Ex (Ex (Ex (Ex b13)))))) wx) ?_
      show SeqJ _ _ _ _ _ _ (Act.put _ (some 67) _) _
      refine aL (v:=(.int .i64 ((k:Int)+1))) rfl Yn Yw (λwx=>pU (.tmp 67) (.const (.int .i64 1)) rfl Es rfl Yo Yo wx) ?_
      show SeqJ _ _ _ _ _ _ (Act.put _ (some 68) _) _
      refine aL (v:=(.pointer (some ⟨g,(k+1)*5,none⟩))) rfl Yn Yw (λwx=>dK (i:=k+1) (.tmp 66) (.tmp 68) rfl (Ex (Ex Es)) Es Yo Yo wx) ?_
      show SeqJ _ _ _ _ _ _ (Act.put _ (some 69) _) _
      refine fC (v:=(dZ (F ((bH d a (a+1) (k+1)) (k+1))))) rfl Yn Yw hS (λwx hx=>eO (.tmp 69) rfl Es hx Yo) ?_
      show SeqJ _ _ _ _ _ _ (Act.put _ (some 70) _) _
      refine aL (v:=(.slice (some ⟨g,0,none⟩) n cap)) rfl Yn Yw (λwx=>aH (.tmp 0) rfl (Ex (Ex (Ex (Ex (Ex (Ex (Ex (Ex (Ex (Ex b0)))))))))) wx) ?_
      show SeqJ _ _ _ _ _ _ (Act.put _ (some 71) _) _
      refine aL (v:=(.int .i64 ((k:Int)))) rfl Yn Yw (λwx=>aH (.tmp 13) rfl (Ex (Ex (Ex (Ex (Ex (Ex (Ex (Ex (Ex (Ex (Ex b13))))))))))) wx) ?_
      show SeqJ _ _ _ _ _ _ (Act.put _ (some 72) _) _
      refine aL (v:=(.pointer (some ⟨g,(k)*5,none⟩))) rfl Yn Yw (λwx=>dK (i:=k) (.tmp 71) (.tmp 72) rfl (Ex Es) Es Yo Yo wx) ?_
      show SeqJ _ _ _ _ _ _ (Act.put _ (some 73) _) _
      refine fC (v:=(dZ (F ((bH d a (a+1) (k+1)) (k))))) rfl Yn Yw hS (λwx hx=>eO (.tmp 73) rfl Es hx Yo) ?_
      show SeqJ _ _ _ _ _ _ (Act.put _ (some 74) _) _
      refine aL (v:=(.pointer (some ⟨g,(k)*5,none⟩))) rfl Yn Yw (λwx=>dK (i:=k) (.tmp 61) (.tmp 62) rfl (Ex (Ex (Ex (Ex (Ex (Ex (Ex (Ex (Ex (Ex (Ex (Ex (Ex Et))))))))))))) (Ex (Ex (Ex (Ex (Ex (Ex (Ex (Ex (Ex (Ex (Ex (Ex Es)))))))))))) Yo Yo wx) ?_
      show SeqJ _ _ _ _ _ _ (Act.put _ (some 75) _) _
      refine kH rfl Yw (λK hK=>?_)
      refine mH _ (.tmp 75) (.tmp 70) rfl Es (Ex (Ex (Ex (Ex (Ex Es))))) hS Yo rfl ?_
      intro w1 m1 k1 z1
      refine hK _ _ (λh=>absurd h Yc) ?_
      clear hK K
      refine aL (v:=(.pointer (some ⟨g,(k+1)*5,none⟩))) rfl Yn Yw (λwx=>dK (i:=k+1) (.tmp 63) (.tmp 65) rfl (Ex (Ex (Ex (Ex (Ex (Ex (Ex (Ex (Ex (Ex (Ex (Ex Es)))))))))))) (Ex (Ex (Ex (Ex (Ex (Ex (Ex (Ex (Ex (Ex Es)))))))))) Yo Yo wx) ?_
      show SeqJ _ _ _ _ _ _ (Act.put _ (some 76) _) _
      refine kH rfl Yw (λK hK=>?_)
      refine mH _ (.tmp 76) (.tmp 74) rfl Es (Ex (Ex Es)) m1 Yo rfl ?_
      intro w2 m2 k2 z2
      refine hK _ _ (λh=>absurd h Yc) ?_
      clear hK K
      have m3:=m2
      rw[aAT] at m3
      exact jV ⟨rfl,m3,((Kept.of_below (show Below wr.heap.size wr wr.drew from (aQ (Below.refl _ _)))).trans k1 (Or.inl rfl)).trans k2 (Or.inl rfl),rfl⟩
     case rest=>
      rintro a' w2 ⟨m2,k2,rfl⟩
      have HS2:=aA m2
      have KS2:=aA ((unhide KS).trans k2 (Or.inl rfl))
      clear m2 k2
      go_frame
      go_wp2_with fail
      go_roundg (i-1-(k+1))
      case measure=>omega
      case rel=>exact⟨k+1,by go_num,Yo,Yo,Yo,aA (by rw[←aQC Yo];exact unhide HS2),KS2⟩
    ·have hklz:¬(k:Int)<(i:Int)-1:=Yo
     go_wp2_with fail
     refine bodyPost_ret (results_none (fn:=Tryz.f66) rfl _ _ _) rfl ?_
     have hmm:Mg (TQ λy=>(F y).p) d a (a+1) b:=by rw[show a+1=m by omega];exact unhide HM
     have q:=aLq hmm (i:=i) Yo Yo (λx x1 x2=>(unhide HI).1 x Yo x2) (λx x1 x2=>(unhide HI).2 x Yo x2)
     exact⟨rfl,_,q.1,q.2,by rw[show i=k+1 by omega];exact unhide HS,unhide KS⟩
set_option maxHeartbeats 4000000 in
set_option maxRecDepth 1000000 in
theorem aFQ (g cap n : Nat) (F : Nat → Lp) (d : Nat → Nat) (a m b : Nat) (w : World) (h : SoR w g cap n F d) (hm : Mg (TQ λy => (F y).p) d a m b) (h2 : m < b) (h3 : b ≤ n) (hn : n ≤ 2513169434843) (ha : a + 1 < m) (hb : b ≤ m + 1) :
  Calls Tryz.prog 66 #[.slice (some ⟨g,0,none⟩) n cap,.int .i64 (a:Int),.int .i64 (m:Int),.int .i64 (b:Int),(.func (.func 32) #[] #[])] w λe w'=>e=.returned (.tuple #[])∧∃e:Nat→Nat,Same a b d e∧SoT (TQ λy=>(F y).p) e a b∧SoR w' g cap n F e∧Kept g w w':=by
 have HH:=aA h
 have HM:=aA hm
 clear h hm
 have em:¬(m:Int)-(a:Int)=1:=Yo
 have emb:((m:Int)-(a:Int)==1)=false:=beq_eq_false_iff_ne.2 em
 have eb:(b:Int)-(m:Int)=1:=Yo
 go_enter Tryz.func66,Tryz.ntmps66
 go_wp2_with fail
 go_loopg [14,15] (m-a) (λr s10 s11 wr=>∃(i j:Nat),s10=.int .i64 (i:Int)∧s11=.int .i64 (j:Int)∧a≤i∧i≤j∧j≤m∧j-i≤r∧Hid (SoR wr g cap n F d)∧Hid ((∀x,a≤x→x<i→TQ (λy=>(F y).p) (d x) (d m))∧∀x,j≤x→x<m→TQ (λy=>(F y).p) (d m) (d x))∧Hid (Kept g w wr))
 case atStart=>exact⟨a,m,rfl,rfl,Yo,Yo,Yo,Yo,HH,aA ⟨λx x1 x2=>by omega,λx x1 x2=>by omega⟩,aA (Kept.of_below (Below.refl _ _))⟩
 case round=>
  obtain⟨i,j,rfl,rfl,hi,hij,hj,hr,HS,HI,KS⟩:=hrel
  by_cases hlt:i<j
  ·have hltz:(i:Int)<(j:Int):=Yo
   obtain⟨h,hh1,hh2⟩:∃h:Nat,2*h≤i+j∧i+j≤2*h+1:=⟨(i+j)/2,Yo,Yo⟩
   have hh3:((i:Int)+(j:Int))/2=(h:Int):=Yo
   by_cases hl:jX (F (d (m))).p (F (d (h))).p<0
   ·have HL:=aA hl
    clear hl
    go_wp2_with fail
    refine wp_leaves (λa0 a' w'=>SoR w' g cap n F (d)∧Kept g wr w'∧a'=((((((((((((a0.put (some 92) (.func (.func 32) #[] #[])).put (some 93) (.slice (some ⟨g,0,none⟩) n cap)).put (some 94) (.int .i64 ((m:Int)))).put (some 95) (.pointer (some ⟨g,(m)*5,none⟩))).put (some 96) (dZ (F (d (m))))).put (some 97) (.slice (some ⟨g,0,none⟩) n cap)).put (some 98) (.int .i64 ((h:Int)))).put (some 99) (.pointer (some ⟨g,(h)*5,none⟩))).put (some 100) (dZ (F (d (h))))).put (some 101) (.int .i64 (jX (F (d (m))).p (F (d (h))).p))).put (some 102) (.bool true)).put (some 103) (.bool false))) ?reg ?rest
    case reg=>
     intro A eA
     have b0:A.eval (.tmp 0)=(.slice (some ⟨g,0,none⟩) n cap):=by rw[eA];rfl
     have b2:A.eval (.tmp 2)=(.int .i64 ((m:Int))):=by rw[eA];rfl
     have b4:A.eval (.tmp 4)=(.func (.func 32) #[] #[]):=by rw[eA];rfl
     have b16:A.eval (.tmp 16)=(.int .i64 ((h:Int))):=by rw[eA];rfl
     have hs:220≤A.tmps.size:=by rw[eA];exact of_decide_eq_true rfl
     clear eA
     have hS:SoR wr.drew g cap n F (d):=unhide HS
     refine iQ (S:=λW=>SoR W g cap n F (d)) (.mv 0 (.mv 1 (.mv 2 (.mv 3 (.rd 4 (.mv 5 (.mv 6 (.mv 7 (.rd 8 (.go 9 (.mv 10 (.mv 11 .fin)))))))))))) [] (by kernel_rfl) (by kernel_rfl) ?_
     refine aL (v:=(.func (.func 32) #[] #[])) rfl Yn Yw (λwx=>aH (.tmp 4) rfl b4 wx) ?_
     show SeqJ _ _ _ _ _ _ (Act.put _ (some 92) _) _
     refine aL (v:=(.slice (some ⟨g,0,none⟩) n cap)) rfl Yn Yw (λwx=>aH (.tmp 0) rfl (Ex b0) wx) ?_
     show SeqJ _ _ _ _ _ _ (Act.put _ (some 93) _) _
     refine aL (v:=(.int .i64 ((m:Int)))) rfl Yn Yw (λwx=>aH (.tmp 2) rfl (Ex (Ex b2)) wx) ?_
     show SeqJ _ _ _ _ _ _ (Act.put _ (some 94) _) _
     refine aL (v:=(.pointer (some ⟨g,(m)*5,none⟩))) rfl Yn Yw (λwx=>dK (i:=m) (.tmp 93) (.tmp 94) rfl (Ex Es) Es Yo Yo wx) ?_
     show SeqJ _ _ _ _ _ _ (Act.put _ (some 95) _) _
     refine fC (v:=(dZ (F (d (m))))) rfl Yn Yw hS (λwx hx=>eO (.tmp 95) rfl Es hx Yo) ?_
     show SeqJ _ _ _ _ _ _ (Act.put _ (some 96) _) _
     refine aL (v:=(.slice (some ⟨g,0,none⟩) n cap)) rfl Yn Yw (λwx=>aH (.tmp 0) rfl (Ex (Ex (Ex (Ex (Ex b0))))) wx) ?_
     show SeqJ _ _ _ _ _ _ (Act.put _ (some 97) _) _
     refine aL (v:=(.int .i64 ((h:Int)))) rfl Yn Yw (λwx=>aH (.tmp 16) rfl (Ex (Ex (Ex (Ex (Ex (Ex b16)))))) wx) ?_
     show SeqJ _ _ _ _ _ _ (Act.put _ (some 98) _) _
     refine aL (v:=(.pointer (some ⟨g,(h)*5,none⟩))) rfl Yn Yw (λwx=>dK (i:=h) (.tmp 97) (.tmp 98) rfl (Ex Es) Es Yo Yo wx) ?_
     show SeqJ _ _ _ _ _ _ (Act.put _ (some 99) _) _
     refine fC (v:=(dZ (F (d (h))))) rfl Yn Yw hS (λwx hx=>eO (.tmp 99) rfl Es hx Yo) ?_
     show SeqJ _ _ _ _ _ _ (Act.put _ (some 100) _) _
     refine kH rfl Yw (λK hK=>?_)
     refine mG _ (.tmp 92) (.tmp 96) (.tmp 100) _ rfl (Ex (Ex (Ex (Ex (Ex (Ex (Ex (Ex Et)))))))) (Ex (Ex (Ex (Ex Es)))) Es (lF (F (d (m))).p (F (d (h))).p _ _ _ _ _ _ _) ?_
     rintro e w1 ⟨rfl,k1⟩
     have h1:=hS.below k1
     refine⟨_,rfl,?_⟩
     refine hK _ _ (λ_ _=>h1) ?_
     clear hK K
     show SeqJ _ _ _ _ _ _ (Act.put _ (some 101) _) _
     refine aL (v:=(.bool true)) rfl Yn Yw (λwx=>fH (.tmp 101) (.const (.int .i64 0)) rfl Es rfl (decide_eq_true (unhide HL)) wx) ?_
     show SeqJ _ _ _ _ _ _ (Act.put _ (some 102) _) _
     refine aL (v:=(.bool false)) rfl Yn Yw (λwx=>dQ (.tmp 102) _ rfl Es wx) ?_
     show SeqJ _ _ _ _ _ _ (Act.put _ (some 103) _) _
     exact jV ⟨rfl,h1,Kept.of_below (show Below wr.heap.size wr w1 from (aQ (Below.refl _ _)).trans k1),rfl⟩
    case rest=>
     rintro a' w2 ⟨m2,k2,rfl⟩
     have HS2:=aA m2
     have KS2:=aA ((unhide KS).trans k2 (Or.inl rfl))
     clear m2 k2
     go_frame
     go_wp2_with fail
     go_roundg (h-i)
     case measure=>omega
     case rel=>exact⟨i,h,rfl,rfl,hi,Yo,Yo,Yo,HS2,aA ⟨(unhide HI).1,λx x1 x2=>(by
      have k:=aCh (q:=λy=>(F y).p) (unhide HL)
      by_cases e:x=h
      ·subst e;exact k
      ·exact (lH _).tr _ _ _ k ((unhide HM).l h x Yo Yo x2))⟩,KS2⟩
   ·have HL:=aA (Int.not_lt.1 hl)
    clear hl
    go_wp2_with fail
    refine wp_leaves (λa0 a' w'=>SoR w' g cap n F (d)∧Kept g wr w'∧a'=((((((((((((a0.put (some 92) (.func (.func 32) #[] #[])).put (some 93) (.slice (some ⟨g,0,none⟩) n cap)).put (some 94) (.int .i64 ((m:Int)))).put (some 95) (.pointer (some ⟨g,(m)*5,none⟩))).put (some 96) (dZ (F (d (m))))).put (some 97) (.slice (some ⟨g,0,none⟩) n cap)).put (some 98) (.int .i64 ((h:Int)))).put (some 99) (.pointer (some ⟨g,(h)*5,none⟩))).put (some 100) (dZ (F (d (h))))).put (some 101) (.int .i64 (jX (F (d (m))).p (F (d (h))).p))).put (some 102) (.bool false)).put (some 103) (.bool true))) ?reg ?rest
    case reg=>
     intro A eA
     have b0:A.eval (.tmp 0)=(.slice (some ⟨g,0,none⟩) n cap):=by rw[eA];rfl
     have b2:A.eval (.tmp 2)=(.int .i64 ((m:Int))):=by rw[eA];rfl
     have b4:A.eval (.tmp 4)=(.func (.func 32) #[] #[]):=by rw[eA];rfl
     have b16:A.eval (.tmp 16)=(.int .i64 ((h:Int))):=by rw[eA];rfl
     have hs:220≤A.tmps.size:=by rw[eA];exact of_decide_eq_true rfl
     clear eA
     have hS:SoR wr.drew g cap n F (d):=unhide HS
     refine iQ (S:=λW=>SoR W g cap n F (d)) (.mv 0 (.mv 1 (.mv 2 (.mv 3 (.rd 4 (.mv 5 (.mv 6 (.mv 7 (.rd 8 (.go 9 (.mv 10 (.mv 11 .fin)))))))))))) [] (by kernel_rfl) (by kernel_rfl) ?_
     refine aL (v:=(.func (.func 32) #[] #[])) rfl Yn Yw (λwx=>aH (.tmp 4) rfl b4 wx) ?_
     show SeqJ _ _ _ _ _ _ (Act.put _ (some 92) _) _
     refine aL (v:=(.slice (some ⟨g,0,none⟩) n cap)) rfl Yn Yw (λwx=>aH (.tmp 0) rfl (Ex b0) wx) ?_
     show SeqJ _ _ _ _ _ _ (Act.put _ (some 93) _) _
     refine aL (v:=(.int .i64 ((m:Int)))) rfl Yn Yw (λwx=>aH (.tmp 2) rfl (Ex (Ex b2)) wx) ?_
     show SeqJ _ _ _ _ _ _ (Act.put _ (some 94) _) _
     refine aL (v:=(.pointer (some ⟨g,(m)*5,none⟩))) rfl Yn Yw (λwx=>dK (i:=m) (.tmp 93) (.tmp 94) rfl (Ex Es) Es Yo Yo wx) ?_
     show SeqJ _ _ _ _ _ _ (Act.put _ (some 95) _) _
     refine fC (v:=(dZ (F (d (m))))) rfl Yn Yw hS (λwx hx=>eO (.tmp 95) rfl Es hx Yo) ?_
     show SeqJ _ _ _ _ _ _ (Act.put _ (some 96) _) _
     refine aL (v:=(.slice (some ⟨g,0,none⟩) n cap)) rfl Yn Yw (λwx=>aH (.tmp 0) rfl (Ex (Ex (Ex (Ex (Ex b0))))) wx) ?_
     show SeqJ _ _ _ _ _ _ (Act.put _ (some 97) _) _
     refine aL (v:=(.int .i64 ((h:Int)))) rfl Yn Yw (λwx=>aH (.tmp 16) rfl (Ex (Ex (Ex (Ex (Ex (Ex b16)))))) wx) ?_
     show SeqJ _ _ _ _ _ _ (Act.put _ (some 98) _) _
     refine aL (v:=(.pointer (some ⟨g,(h)*5,none⟩))) rfl Yn Yw (λwx=>dK (i:=h) (.tmp 97) (.tmp 98) rfl (Ex Es) Es Yo Yo wx) ?_
     show SeqJ _ _ _ _ _ _ (Act.put _ (some 99) _) _
     refine fC (v:=(dZ (F (d (h))))) rfl Yn Yw hS (λwx hx=>eO (.tmp 99) rfl Es hx Yo) ?_
     show SeqJ _ _ _ _ _ _ (Act.put _ (some 100) _) _
     refine kH rfl Yw (λK hK=>?_)
     refine mG _ (.tmp 92) (.tmp 96) (.tmp 100) _ rfl (Ex (Ex (Ex (Ex (Ex (Ex (Ex (Ex Et)))))))) (Ex (Ex (Ex (Ex Es)))) Es (lF (F (d (m))).p (F (d (h))).p _ _ _ _ _ _ _) ?_
     rintro e w1 ⟨rfl,k1⟩
     have h1:=hS.below k1
     refine⟨_,rfl,?_⟩
     refine hK _ _ (λ_ _=>h1) ?_
     clear hK K
     show SeqJ _ _ _ _ _ _ (Act.put _ (some 101) _) _
     refine aL (v:=(.bool false)) rfl Yn Yw (λwx=>fH (.tmp 101) (.const (.int .i64 0)) rfl Es rfl (decide_eq_false (Int.not_lt.2 (unhide HL))) wx) ?_
     show SeqJ _ _ _ _ _ _ (Act.put _ (some 102) _) _
     refine aL (v:=(.bool true)) rfl Yn Yw (λwx=>dQ (.tmp 102) _ rfl Es wx) ?_
     show SeqJ _ _ _ _ _ _ (Act.put _ (some 103) _) _
     exact jV ⟨rfl,h1,Kept.of_below (show Below wr.heap.size wr w1 from (aQ (Below.refl _ _)).trans k1),rfl⟩
    case rest=>
     rintro a' w2 ⟨m2,k2,rfl⟩
     have HS2:=aA m2
     have KS2:=aA ((unhide KS).trans k2 (Or.inl rfl))
     clear m2 k2
     go_frame
     go_wp2_with fail
     go_roundg (j-(h+1))
     case measure=>omega
     case rel=>exact⟨h+1,j,by go_num,rfl,Yo,Yo,hj,Yo,HS2,aA ⟨λx x1 x2=>(by
      have k:=aDG (q:=λy=>(F y).p) ((unhide HM).x h m Yo Yo Yo h2) (Int.not_lt.2 (unhide HL))
      by_cases e:x=h
      ·subst e;exact k
      ·exact (lH _).tr _ _ _ ((unhide HM).l x h x1 Yo Yo) k),(unhide HI).2⟩,KS2⟩
  ·have hltz:¬(i:Int)<(j:Int):=Yo
   obtain⟨i2,j2⟩:i≤j∧j≤i:=Yo
   go_wp2_with fail
   go_loopg [17] (m-i) (λr s13 wr=>∃k:Nat,s13=.int .i64 (k:Int)∧i≤k∧k≤m∧k-i≤r∧Hid (SoR wr g cap n F (bH d k m (m+1)))∧Hid (Kept g w wr))
   case atStart=>exact⟨m,rfl,Yo,Yo,Yo,aA (by rw[tV (Or.inl rfl) Yo Yo];exact unhide HS),KS⟩
   case round=>
    clear HS KS
    obtain⟨k,rfl,hk1,hk2,hr2,HS,KS⟩:=hrel
    by_cases hkl:i<k
    ·have hklz:(i:Int)<(k:Int):=Yo
     go_wp2_with fail
     refine wp_leaves (λa0 a' w'=>SoR w' g cap n F (wH (bH d k m (m+1)) k (k-1))∧Kept g wr w'∧a'=((((((((((((((((a0.put (some 113) (.slice (some ⟨g,0,none⟩) n cap)).put (some 114) (.int .i64 ((k:Int)))).put (some 115) (.slice (some ⟨g,0,none⟩) n cap)).put (some 116) (.int .i64 ((k:Int)))).put (some 117) (.int .i64 ((k:Int)-1))).put (some 118) (.slice (some ⟨g,0,none⟩) n cap)).put (some 119) (.int .i64 ((k:Int)))).put (some 120) (.int .i64 ((k:Int)-1))).put (some 121) (.pointer (some ⟨g,(k-1)*5,none⟩))).put (some 122) (dZ (F ((bH d k m (m+1)) (k-1))))).put (some 123) (.slice (some ⟨g,0,none⟩) n cap)).put (some 124) (.int .i64 ((k:Int)))).put (some 125) (.pointer (some ⟨g,(k)*5,none⟩))).put (some 126) (dZ (F ((bH d k m (m+1)) (k))))).put (some 127) (.pointer (some ⟨g,(k)*5,none⟩))).put (some 128) (.pointer (some ⟨g,(k-1)*5,none⟩)))) ?reg ?rest
     case reg=>
      intro A eA
      have b0:A.eval (.tmp 0)=(.slice (some ⟨g,0,none⟩) n cap):=by rw[eA];rfl
      have b17:A.eval (.tmp 17)=(.int .i64 ((k:Int))):=by rw[eA];rfl
      have hs:220≤A.tmps.size:=by rw[eA];exact of_decide_eq_true rfl
      clear eA
      have hS:SoR wr.drew g cap n F ((bH d k m (m+1))):=unhide HS
      refine iQ (S:=λW=>SoR W g cap n F ((bH d k m (m+1)))) (.mv 0 (.mv 1 (.mv 2 (.mv 3 (.mv 4 (.mv 5 (.mv 6 (.mv 7 (.mv 8 (.rd 9 (.mv 10 (.mv 11 (.mv 12 (.rd 13 (.mv 14 (.go 15 (.mv 16 (.go 17 .fin)))))))))))))))))) [15,17] (by kernel_rfl) (by kernel_rfl) ?_
      refine aL (v:=(.slice (some ⟨g,0,none⟩) n cap)) rfl Yn Yw (λwx=>aH (.tmp 0) rfl b0 wx) ?_
      show SeqJ _ _ _ _ _ _ (Act.put _ (some 113) _) _
      refine aL (v:=(.int .i64 ((k:Int)))) rfl Yn Yw (λwx=>aH (.tmp 17) rfl (Ex b17) wx) ?_
      show SeqJ _ _ _ _ _ _ (Act.put _ (some 114) _) _
      refine aL (v:=(.slice (some ⟨g,0,none⟩) n cap)) rfl Yn Yw (λwx=>aH (.tmp 0) rfl (Ex (Ex b0)) wx) ?_
      show SeqJ _ _ _ _ _ _ (Act.put _ (some 115) _) _
      refine aL (v:=(.int .i64 ((k:Int)))) rfl Yn Yw (λwx=>aH (.tmp 17) rfl (Ex (Ex (Ex b17))) wx) ?_
      show SeqJ _ _ _ _ _ _ (Act.put _ (some 116) _) _
      refine aL (v:=(.int .i64 ((k:Int)-1))) rfl Yn Yw (λwx=>nU (.tmp 116) (.const (.int .i64 1)) rfl Es rfl Yo Yo wx) ?_
      show SeqJ _ _ _ _ _ _ (Act.put _ (some 117) _) _
      refine aL (v:=(.slice (some ⟨g,0,none⟩) n cap)) rfl Yn Yw (λwx=>aH (.tmp 0) rfl (Ex (Ex (Ex (Ex (Ex b0))))) wx) ?_
      show SeqJ _ _ _ _ _ _ (Act.put _ (some 118) _) _
      refine aL (v:=(.int .i64 ((k:Int)))) rfl Yn Yw (λwx=>aH (.tmp 17) rfl (Ex (Ex (Ex (Ex (Ex (Ex b17)))))) wx) ?_
      show SeqJ _ _ _ _ _ _ (Act.put _ (some 119) _) _
      refine aL (v:=(.int .i64 ((k:Int)-1))) rfl Yn Yw (λwx=>nU (.tmp 119) (.const (.int .i64 1)) rfl Es rfl Yo Yo wx) ?_
      show SeqJ _ _ _ _ _ _ (Act.put _ (some 120) _) _
      refine aL (v:=(.pointer (some ⟨g,(k-1)*5,none⟩))) rfl Yn Yw (λwx=>dK (i:=k-1) (.tmp 118) (.tmp 120) rfl (Ex (Ex Es)) Es Yo Yo wx) ?_
      show SeqJ _ _ _ _ _ _ (Act.put _ (some 121) _) _
      refine fC (v:=(dZ (F ((bH d k m (m+1)) (k-1))))) rfl Yn Yw hS (λwx hx=>eO (.tmp 121) rfl Es hx Yo) ?_
      show SeqJ _ _ _ _ _ _ (Act.put _ (some 122) _) _
      refine aL (v:=(.slice (some ⟨g,0,none⟩) n cap)) rfl Yn Yw (λwx=>aH (.tmp 0) rfl (Ex (Ex (Ex (Ex (Ex (Ex (Ex (Ex (Ex (Ex b0)))))))))) wx) ?_
      show SeqJ _ _ _ _ _ _ (Act.put _ (some 123) _) _
      refine aL (v:=(.int .i64 ((k:Int)))) rfl Yn Yw (λwx=>aH (.tmp 17) rfl (Ex (Ex (Ex (Ex (Ex (Ex (Ex (Ex (Ex (Ex (Ex b17))))))))))) wx) ?_
      show SeqJ _ _ _ _ _ _ (Act.put _ (some 124) _) _
      refine aL (v:=(.pointer (some ⟨g,(k)*5,none⟩))) rfl Yn Yw (λwx=>dK (i:=k) (.tmp 123) (.tmp 124) rfl (Ex Es) Es Yo Yo wx) ?_
      show SeqJ _ _ _ _ _ _ (Act.put _ (some 125) _) _
      refine fC (v:=(dZ (F ((bH d k m (m+1)) (k))))) rfl Yn Yw hS (λwx hx=>eO (.tmp 125) rfl Es hx Yo) ?_
      show SeqJ _ _ _ _ _ _ (Act.put _ (some 126) _) _
      refine aL (v:=(.pointer (some ⟨g,(k)*5,none⟩))) rfl Yn Yw (λwx=>dK (i:=k) (.tmp 113) (.tmp 114) rfl (Ex (Ex (Ex (Ex (Ex (Ex (Ex (Ex (Ex (Ex (Ex (Ex (Ex Et))))))))))))) (Ex (Ex (Ex (Ex (Ex (Ex (Ex (Ex (Ex (Ex (Ex (Ex Es)))))))))))) Yo Yo wx) ?_
      show SeqJ _ _ _ _ _ _ (Act.put _ (some 127) _) _
      refine kH rfl Yw (λK hK=>?_)
      refine mH _ (.tmp 127) (.tmp 122) rfl Es (Ex (Ex (Ex (Ex (Ex Es))))) hS Yo rfl ?_
      intro w1 m1 k1 z1
      refine hK _ _ (λh=>absurd h Yc) ?_
      clear hK K
      refine aL (v:=(.pointer (some ⟨g,(k-1)*5,none⟩))) rfl Yn Yw (λwx=>dK (i:=k-1) (.tmp 115) (.tmp 117) rfl (Ex (Ex (Ex (Ex (Ex (Ex (Ex (Ex (Ex (Ex (Ex (Ex Es)))))))))))) (Ex (Ex (Ex (Ex (Ex (Ex (Ex (Ex (Ex (Ex Es)))))))))) Yo Yo wx) ?_
      show SeqJ _ _ _ _ _ _ (Act.put _ (some 128) _) _
      refine kH rfl Yw (λK hK=>?_)
      refine mH _ (.tmp 128) (.tmp 126) rfl Es (Ex (Ex Es)) m1 Yo rfl ?_
      intro w2 m2 k2 z2
      refine hK _ _ (λh=>absurd h Yc) ?_
      clear hK K
      have m3:=m2
      rw[aAT] at m3
      exact jV ⟨rfl,m3,((Kept.of_below (show Below wr.heap.size wr wr.drew from (aQ (Below.refl _ _)))).trans k1 (Or.inl rfl)).trans k2 (Or.inl rfl),rfl⟩
     case rest=>
      rintro a' w2 ⟨m2,k2,rfl⟩
      have HS2:=aA m2
      have KS2:=aA ((unhide KS).trans k2 (Or.inl rfl))
      clear m2 k2
      go_frame
      go_wp2_with fail
      go_roundg (k-1-i)
      case measure=>omega
      case rel=>exact⟨k-1,by first|rfl|(congr 1;omega),Yo,Yo,Yo,aA (by rw[←aDb Yo Yo];exact unhide HS2),KS2⟩
    ·have hklz:¬(i:Int)<(k:Int):=Yo
     go_wp2_with fail
     refine bodyPost_ret (results_none (fn:=Tryz.f66) rfl _ _ _) rfl ?_
     have hmm:Mg (TQ λy=>(F y).p) d a m (m+1):=by rw[show m+1=b by omega];exact unhide HM
     have q:=aGl hmm (i:=i) Yo Yo (λx x1 x2=>(unhide HI).1 x x1 x2) (λx x1 x2=>(unhide HI).2 x Yo x2)
     rw[show m+1=b by omega] at q
     exact⟨rfl,_,q.1,q.2,by rw[←show m+1=b by omega,show i=k by omega];exact unhide HS,unhide KS⟩
end Go.Proofs.YtdhblehhgpdpdacGreat
namespace Go.Proofs.YtdhblehhgpdpdacGreat
open Go
section
variable {P:Program} {ops:Array Oper} {Q:Exit→Act→World→Prop} {a:Act} {w:World} {rest:List Oper} {o:Oper}
structure LstI (P:Program) (ops:Array Oper) (Q:Exit→Act→World→Prop) (l:List Oper) (a:Act) (w:World):Prop where
 out:wpList P ops Q l a w
theorem aLe{id:Nat}{l:List Oper}(h:LstI P l.toArray Q l a w):(Code.region id l.toArray false).wp P Q a w:=wp_region_lit h.out
theorem pO(h:Q .normal a w):LstI P ops Q [] a w:=⟨wpList_nil h⟩
theorem bY{v:Value}(hw:Region.wanted o (yielded ops a.tmps)=true)(hy:(execOp a.eval o).run P w=.ok (.value v) w)(h:LstI P ops Q rest (a.put o.dst v) w):LstI P ops Q (o::rest) a w:=
 ⟨wpList_step λK hK=>by
  rw[if_pos hw]
  unfold Oper.wp
  rw[hy]
  exact hK _ _ h.out⟩
theorem pI(hw:Region.wanted o (yielded ops a.tmps)=false)(h:LstI P ops Q rest (a.put o.dst undef) w):LstI P ops Q (o::rest) a w:=⟨wpList_skip hw h.out⟩
theorem aDN(hw:Region.wanted o (yielded ops a.tmps)=true)(h:∀K:Act→World→Prop,(∀a' w',LstI P ops Q rest a' w'→K a' w')→WpI P o a w K Q):LstI P ops Q (o::rest) a w:=
 ⟨wpList_step λK hK=>by
  rw[if_pos hw]
  exact (h K (λa' w' h1=>hK a' w' h1.out)).out⟩
structure CodI (P:Program) (c:Code) (Q:Exit→Act→World→Prop) (a:Act) (w:World):Prop where
 out:c.wp P Q a w
theorem qX{x y:Code}(R:Act→World→Prop)(h:CodI P x (λe a' w'=>e=.normal∧R a' w') a w)(k:∀a' w',R a' w'→CodI P y Q a' w'):CodI P (.seq x y) Q a w:=
 ⟨wp_seq (Code.wp_mono (λe a' w' ⟨he,hr⟩=>by rw[he];exact (k a' w' hr).out) h.out)⟩
theorem aR{id:Nat}{l:List Oper}(h:LstI P l.toArray Q l a w):CodI P (.region id l.toArray false) Q a w:=⟨aLe h⟩
theorem bP{c:Operand}{x y:Code}(hc:a.eval c=.bool true)(h:CodI P x Q a w):CodI P (.cond c x y) Q a w:=⟨wp_cond_true hc h.out⟩
theorem bM{c:Operand}{x y:Code}(hc:a.eval c=.bool false)(h:CodI P y Q a w):CodI P (.cond c x y) Q a w:=⟨wp_cond_false hc h.out⟩
theorem rA(h:Q .normal a w):CodI P .skip Q a w:=⟨wp_skip h⟩
end
structure Stay (ks:List Nat) (a b:Act):Prop where
 ev:∀k,k∈ks→b.eval (.tmp k)=a.eval (.tmp k)
 size:b.tmps.size=a.tmps.size
 defers:b.defers=a.defers
theorem Stay.refl(ks:List Nat)(a:Act):Stay ks a a:=⟨λ_ _=>rfl,rfl,rfl⟩
theorem Stay.trans{ks:List Nat}{a b c:Act}(h:Stay ks a b)(k:Stay ks b c):Stay ks a c:=⟨λi hi=>(k.ev i hi).trans (h.ev i hi),k.size.trans h.size,k.defers.trans h.defers⟩
theorem Stay.put{ks:List Nat}{a b:Act}(h:Stay ks a b)(d:Nat)(v:Value)(hd:ks.contains d=false):Stay ks a (b.put (some d) v):=
 ⟨λi hi=>(vK _ _ (λe=>by subst e;rw[List.contains_eq_mem,decide_eq_false_iff_not] at hd;exact hd hi)).trans (h.ev i hi),(aEk ..).trans h.size,h.defers⟩
def findSeq(n:Nat):Code→Option Code
 |.seq x y=>match x with
  |.region k _ _=>if k=n then some (.seq x y) else findSeq n y
  |_=>match findSeq n x with
   |some c=>some c
   |none=>findSeq n y
 |.block _ c=>findSeq n c
 |.loop c=>findSeq n c
 |.cond _ x y=>match findSeq n x with
  |some c=>some c
  |none=>findSeq n y
 |_=>none
def aRH:Code→Code
 |.seq _ y=>y
 |c=>c
end Go.Proofs.YtdhblehhgpdpdacGreat
