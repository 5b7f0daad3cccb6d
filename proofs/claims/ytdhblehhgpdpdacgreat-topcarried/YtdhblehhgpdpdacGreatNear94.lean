import Derived.Test.YtdhblehhgpdpdacGreatNear161
namespace Go.Proofs.YtdhblehhgpdpdacGreat
open Go.RowKit Go.Maps
theorem aII:Keyed Tryz.prog 3:=int_keyed Tryz.underlying3
theorem aPf(w:World):(zeroValue 3).run Tryz.prog w=.ok (.int .i64 0) w:=by kernel_rfl
theorem aES{x:Int}(h:R64 x):(Lit.int .i64 x).wf=true:=by
 unfold R64 at h
 simp[Lit.wf,IntKind.min,IntKind.max,IntKind.signed,IntKind.bits]
 omega
theorem aQX(x:Int):WideAt.IsKeyLit (.int .i64 x):=by simp[WideAt.IsKeyLit]
def MI(w:World)(b n:Nat)(f:Int→Int):Prop:=∃D:DataW Unit,w.ownsMap Tryz.prog 3 (plainElem Tryz.prog 3) b n D∧∀k,R64 k→D.atKey (.int .i64 k) (.lit (.int .i64 0))=.lit (.int .i64 (f k))
def upZ(f:Int→Int)(k v:Int)(x:Int):Int:=if x=k then v else f x
section
variable {w w':World} {b n:Nat} {f:Int→Int}
theorem MI.lt(h:MI w b n f):b<w.heap.size:=by obtain⟨D,h,_⟩:=h;exact h.lt
theorem MI.same(h:MI w b n f)(e:w'.heap[b]?=w.heap[b]?):MI w' b n f:=by
 obtain⟨D,⟨es,clock,hb,F,hs,hD⟩,hf⟩:=h
 exact⟨D,⟨es,clock,e.trans hb,F,hs,hD⟩,hf⟩
theorem MI.below(h:MI w b n f)(k:Below w.heap.size w w'):MI w' b n f:=h.same (k.block b h.lt)
theorem MI.under{B:Nat}(h:MI w b n f)(k:Below B w w')(hb:b<B):MI w' b n f:=h.same (k.block b hb)
theorem MI.kept{z:Nat}(h:MI w b n f)(k:Kept z w w')(hz:b≠z):MI w' b n f:=h.same (k.block b h.lt hz)
theorem MI.mono(h:MI w b n f){m:Nat}(e:n≤m):MI w b m f:=by obtain⟨D,h,hf⟩:=h;exact⟨D,h.mono e,hf⟩
theorem MI.congr{g:Int→Int}(h:MI w b n f)(e:∀k,R64 k→f k=g k):MI w b n g:=by
 obtain⟨D,h,hf⟩:=h
 exact⟨D,h,λk hk=>by rw[hf k hk,e k hk]⟩
theorem MI.new(w:World):MI (w.alloc (.map #[] 0)) w.heap.size 0 (λ_=>0):=⟨.map [],World.ownsMap_made _ _ _ _,λ_ _=>rfl⟩
theorem MI.look(h:MI w b n f){k:Int}(hk:R64 k){t:TypeId}(ht:Tryz.prog.underlying t=some (.map 3 3)):(Instr.lookup t (.map (some b)) (.int .i64 k) false).run Tryz.prog w=.ok (.int .i64 (f k)) w:=by
 obtain⟨D,h,hf⟩:=h
 obtain⟨c,hrun,hat,_⟩:=h.lookup_int aII ht Tryz.underlying3 (aPf w) (keyOf_int_mk Tryz.underlying3 (aES hk))
 rw[hf k hk] at hat
 cases hat
 exact hrun
theorem MI.put(h:MI w b n f){k v:Int}(hk:R64 k)(hv:R64 v)(hn:n≤1000000){t:TypeId}(ht:Tryz.prog.underlying t=some (.map 3 3)):∃w',(Instr.mapUpdate t (.map (some b)) (.int .i64 k) (.int .i64 v)).run Tryz.prog w=.ok () w'∧MI w' b (n+1) (upZ f k v)∧Kept b w w':=by
 obtain⟨D,h,hf⟩:=h
 have hD:IsMap D:=by obtain⟨es,clock,_,_,_,rfl⟩:=h;exact⟨_,rfl⟩
 obtain⟨w',hrun,h2,hg⟩:=h.update aII ht (by unfold maxLen;omega) (keyOf_int_mk Tryz.underlying3 (aES hk)) (plainElem_int Tryz.underlying3 (aES hv))
 refine⟨w',hrun,⟨_,h2,λx hx=>?_⟩,⟨hg.os,hg.tape,hg.output,hg.size,λi hi hn=>hg.block i hi (λe=>hn (Option.some.inj e))⟩⟩
 unfold upZ
 by_cases e:x=k
 ·subst e;rw[if_pos rfl,atKey_put_same hD (aQX x)]
 ·rw[if_neg e,atKey_put_other (by intro h;cases h;exact e rfl),hf x hx]
end
end Go.Proofs.YtdhblehhgpdpdacGreat
namespace Go.Proofs.YtdhblehhgpdpdacGreat
open Go.RowKit
def CoI(w:World)(v:Nat→Int)(b:Nat→Bool)(k:Nat)(W:World):Prop:=
 MI W (w.heap.size+1+1) k (λx=>(vk b v x k:Nat))∧B4 W (w.heap.size+1) b∧Below w.heap.size w W
theorem aRf(b:Nat→Bool)(v:Nat→Int)(k:Nat)(hb:b k=true)(x:Int):upZ (λx=>((vk b v x k:Nat):Int)) (v k) ((vk b v (v k) k:Nat)+1) x=((vk b v x (k+1):Nat):Int):=by
 unfold upZ
 have e:vk b v x (k+1)=vk b v x k+if b k=true∧v k=x then 1 else 0:=rfl
 by_cases h:x=v k
 ·subst h;rw[if_pos rfl,e,if_pos ⟨hb,rfl⟩];omega
 ·rw[if_neg h,e,if_neg (λh2=>h h2.2.symm)];rfl
theorem aRT(b:Nat→Bool)(v:Nat→Int)(k:Nat)(hb:b k=false)(x:Int):((vk b v x k:Nat):Int)=((vk b v x (k+1):Nat):Int):=by
 have e:vk b v x (k+1)=vk b v x k+if b k=true∧v k=x then 1 else 0:=rfl
 rw[e,if_neg (λh=>by rw[hb] at h;cases h.1)];rfl
set_option maxHeartbeats 1000000 in
theorem aFt (v : Nat → Int) (b : Nat → Bool) (w : World) (rv : ∀ i, R64 (v i)) :
  Calls Tryz.prog 96 #[xI v,xM b] w λe w'=>∃m,w.heap.size≤m∧e=.returned (.tuple #[.map (some m),.int .i64 (ti b 4:Nat)])∧MI w' m 4 (λx=>(vk b v x 4:Nat))∧Below w.heap.size w w':=by
 obtain⟨w1,e1,mA,mB,k1,s1⟩:=aJr w v b
 have hmm:=@run_makeMap Tryz.prog
 have mM:=MI.new w1
 obtain⟨w2,e2⟩:∃w2,w2=w1.alloc (.map #[] 0):=⟨_,rfl⟩
 rw[←e2,s1] at mM
 have k2:Below w1.heap.size w1 w2:=by rw[e2];exact bR w1 _
 have mA:=mA.below k2
 have h0:CoI w v b 0 w2:=⟨mM.congr (λ_ _=>rfl),mB.below k2,k1.trans (k2.mono k1.size)⟩
 have c0:=mA.cell (show 0<4 by omega);have c1:=mA.cell (show 1<4 by omega);have c2:=mA.cell (show 2<4 by omega);have c3:=mA.cell (show 3<4 by omega)
 have E1:=aA e1;have E2:=aA e2;have H0:=aA h0;have S1:=aA s1;have RV:=aA rv
 clear e1 e2 mA mB k1 k2 mM s1 h0 rv
 unfold xI xM
 go_enter Tryz.func96,Tryz.ntmps96
 go_wp2_with fail
 rw[←unhide E1, ←unhide E2]
 go_wp2_with fail
 go_loopw [7,12] (λts is wr=>∃k:Nat,k≤4∧ts=.int .i64 (ti b k:Nat)∧is=.int .i64 (k:Nat)∧CoI w v b k wr) (λ_ is _=>4-(intOf is).toNat)
 case atStart=>exact⟨0,Yo,rfl,rfl,unhide H0⟩
 case round=>
  obtain⟨k,hk,rfl,rfl,hI⟩:=hrel
  rename World=>wr
  by_cases hin:k<4
  ·have cb:=hI.2.1.cell hin
   have hin':(k:Int)<4:=Yo
   have hn:ti b k≤4:=Nat.le_trans (aDL b k) Yo
   have hx:=zO v hin wr
   have T:=aA (show ti b (k+1)=ti b k+if b k=true then 1 else 0 from rfl)
   by_cases hb:b k=true
   ·have hq:vk b v (v k) k≤4:=Nat.le_trans (aHl b v (v k) k) hk
    have hl:=hI.1.look (unhide RV k) Tryz.underlying174
    obtain⟨w3,hp,m3,k3⟩:=hI.1.put (k:=v k) (v:=(vk b v (v k) k:Nat)+1) (unhide RV k) (by unfold R64;omega) Yo Tryz.underlying174
    have H3:=aA (show CoI w v b (k+1) w3 from ⟨m3.congr (λx _=>aRf b v k hb x),hI.2.1.kept k3 Yo,aC hI.2.2 k3 Yo hI.2.2.size⟩)
    have T2:=aA (show ti b (k+1)=ti b k+1 by rw[unhide T,if_pos hb])
    rw[hb] at cb
    clear hI m3 k3 T
    generalize vk b v (v k) k=q at*
    generalize ti b k=t0 at*
    generalize v k=x at*
    go_wp2_with fail
    go_roundw
    case rel=>exact⟨k+1,Yo,by rw[unhide T2];go_num,by go_num,unhide H3⟩
    case measure=>simp[intOf]<;>omega
   ·have hb':b k=false:=by simpa using hb
    have H3:=aA (show CoI w v b (k+1) wr from ⟨(hI.1.mono Yo).congr (λx _=>aRT b v k hb' x),hI.2.1,hI.2.2⟩)
    have T2:=aA (show ti b (k+1)=ti b k by rw[unhide T,if_neg hb];rfl)
    rw[hb'] at cb
    clear hI T
    go_wp2_with fail
    go_roundw
    case rel=>exact⟨k+1,Yo,by rw[unhide T2],by go_num,unhide H3⟩
    case measure=>simp[intOf]<;>omega
  ·have e9:k=4:=Yo
   subst e9
   rw[show ((4:Nat):Int)=4 from rfl]
   go_wp2_with fail
   refine bodyPost_ret (v:=.tuple #[.map (some (w.heap.size+1+1)),.int .i64 (ti b 4:Nat)]) (by simp[results,Tryz.results96,go_sem]) rfl ⟨_,Yo,rfl,hI.1,hI.2.2⟩
def LeI(w:World)(v:Nat→Int)(b:Nat→Bool)(m:Nat)(W:World):Prop:=
 MI W m 4 (λx=>(vk b v x 4:Nat))∧B4 W (w.heap.size+1) b∧Below w.heap.size w W
theorem LeI.drew{w W:World}{v:Nat→Int}{b:Nat→Bool}{m:Nat}(h:LeI w v b m W):LeI w v b m W.drew:=⟨h.1.same rfl,h.2.1,aQ h.2.2⟩
def IsC(v:Nat→Int)(b:Nat→Bool)(k:Nat)(X:Int)(c:Nat):Prop:=(ti b k=0∧c=0)∨(ti b k≠0∧c=vk b v X 4)
theorem aIp{f:Operand→Value}{o:Oper}(x y:Operand)(ho:o.op=.lookup 174 x y false){m n:Nat}{g:Int→Int}{u:Int}(hx:f x=.map (some m))(hy:f y=.int .i64 u){w:World}(hM:MI w m n g)(hu:R64 u):(execOp f o).run Tryz.prog w=.ok (.value (.int .i64 (g u))) w:=by
 have hl:=hM.look hu Tryz.underlying174
 unfold execOp
 rw[ho]
 dsimp only
 rw[hx,hy]
 go_simp
set_option maxHeartbeats 1000000 in
theorem aFu (v : Nat → Int) (b : Nat → Bool) (m : Nat) (w : World) (rv : ∀ i, R64 (v i)) (hM : MI w m 4 (λx => (vk b v x 4 : Nat))) :
  Calls Tryz.prog 97 #[xI v,xM b,.map (some m)] w λe w'=>∃X,rG v b 4 X∧e=.returned (.int .i64 X)∧Below w.heap.size w w':=by
 obtain⟨w1,e1,mA,mB,k1,s1⟩:=aJr w v b
 have h0:LeI w v b m w1:=⟨hM.below k1,mB,k1⟩
 have c0:=mA.cell (show 0<4 by omega);have c1:=mA.cell (show 1<4 by omega);have c2:=mA.cell (show 2<4 by omega);have c3:=mA.cell (show 3<4 by omega)
 have E1:=aA e1;have H0:=aA h0;have RV:=aA rv
 clear e1 mA mB k1 s1 h0 rv hM
 unfold xI xM
 go_enter Tryz.func97,Tryz.ntmps97
 go_wp2_with fail
 rw[←unhide E1]
 go_wp2_with fail
 go_loopw [7,8,12] (λxs cs is wr=>∃(k c:Nat) (X:Int),k≤4∧xs=.int .i64 X∧cs=.int .i64 (c:Nat)∧is=.int .i64 (k:Nat)∧rG v b k X∧IsC v b k X c∧c≤4∧LeI w v b m wr) (λ_ _ is _=>4-(intOf is).toNat)
 case atStart=>exact⟨0,0,0,Yo,rfl,rfl,rfl,aDf v b,Or.inl ⟨rfl,rfl⟩,Yo,unhide H0⟩
 case round=>
  obtain⟨k,c,X,hk,rfl,rfl,rfl,hV,hC,hc4,hI⟩:=hrel
  rename World=>wr
  by_cases hin:k<4
  ·have cb:=hI.2.1.cell hin
   have hin':(k:Int)<4:=Yo
   have hx:=zO v hin wr
   have hl:=hI.1.look (unhide RV k) Tryz.underlying174
   have hq:vk b v (v k) 4≤4:=aHl b v (v k) 4
   have HV:=aA hV;have HC:=aA hC;have HI:=aA hI
   clear hV hC hI
   by_cases hb:b k=true
   ·have hp:0<vk b v (v k) 4:=aQL hin hb
    have T:=aA (show ti b (k+1)≠0 from Nat.pos_iff_ne_zero.1 (aRC (Nat.lt_succ_self k) hb))
    by_cases hd:c<vk b v (v k) 4
    ·have D:=aA (show rG v b (k+1) (v k) from aEr (unhide HV) hb (by
      rcases unhide HC with ⟨h,_⟩|⟨_,h⟩
      ·exact Or.inr h
      ·left;omega))
     have D2:=aA (show IsC v b (k+1) (v k) (vk b v (v k) 4) from Or.inr ⟨unhide T,rfl⟩)
     have RVK:=aA (unhide RV k)
     rw[hb] at cb
     have hd':(c:Int)<((vk b v (v k) 4:Nat):Int):=Yo
     go_wp2_with fail
     clear cb hx hl
     refine wp_leaves (λa0 a' w'=>LeI w v b m w'∧a'=((((((a0.put (some 26) (.int .i64 (v k))).put (some 27) (.map (some m))).put (some 28) (.int .i64 (v k))).put (some 29) (.int .i64 (vk b v (v k) 4:Nat))).put (some 7) (.int .i64 (v k))).put (some 8) (.int .i64 (vk b v (v k) 4:Nat)))) ?reg ?rest
     case reg=>
      intro A eA
      have b2:A.eval (.tmp 2)=.map (some m):=by rw[eA];rfl
      have b10:A.eval (.tmp 10)=.int .i64 (v k):=by rw[eA];rfl
      have hs:32≤A.tmps.size:=by rw[eA];exact of_decide_eq_true rfl
      clear eA
      have hS:=(unhide HI).drew
      refine nZ (S:=LeI w v b m) (.rd 0 (.rd 1 (.rd 2 (.rd 3 (.rd 4 (.rd 5 .fin)))))) [] (by kernel_rfl) (by kernel_rfl) ?_
      refine aY (v:=.int .i64 (v k)) rfl Yn Yw hS (λwx _=>aH (.tmp 10) rfl b10 wx) ?_
      show SeqI _ _ _ _ _ _ (Act.put _ (some 26) _) _
      refine aY (v:=.map (some m)) rfl Yn Yw hS (λwx _=>aH (.tmp 2) rfl (Ex b2) wx) ?_
      show SeqI _ _ _ _ _ _ (Act.put _ (some 27) _) _
      refine aY (v:=.int .i64 (v k)) rfl Yn Yw hS (λwx _=>aH (.tmp 10) rfl (Ex (Ex b10)) wx) ?_
      show SeqI _ _ _ _ _ _ (Act.put _ (some 28) _) _
      refine aY (v:=.int .i64 (vk b v (v k) 4:Nat)) rfl Yn Yw hS (λwx hx=>aIp (.tmp 27) (.tmp 28) rfl (Ex Es) Es hx.1 (unhide RVK)) ?_
      show SeqI _ _ _ _ _ _ (Act.put _ (some 29) _) _
      refine aY (v:=.int .i64 (v k)) rfl Yn Yw hS (λwx _=>jP (.tmp 26) rfl (Ex (Ex (Ex Et))) wx) ?_
      show SeqI _ _ _ _ _ _ (Act.put _ (some 7) _) _
      refine aY (v:=.int .i64 (vk b v (v k) 4:Nat)) rfl Yn Yw hS (λwx _=>jP (.tmp 29) rfl (Ex Es) wx) ?_
      show SeqI _ _ _ _ _ _ (Act.put _ (some 8) _) _
      exact mZ ⟨rfl,hS,rfl⟩
     case rest=>
      rintro a' w2 ⟨hI2,rfl⟩
      have H2:=aA hI2
      clear hI2
      go_frame
      go_wp2_with fail
      go_roundw
      case rel=>exact⟨k+1,_,v k,Yo,rfl,rfl,by go_num,unhide D,unhide D2,hq,unhide H2⟩
      case measure=>simp[intOf]<;>omega
    ·have D:=aA (show rG v b (k+1) X from aCR (unhide HV) (by
      rcases unhide HC with ⟨h,h2⟩|⟨_,h⟩
      ·omega
      ·omega) (by
      rcases unhide HC with ⟨h,h2⟩|⟨h,_⟩
      ·omega
      ·exact h))
     have D2:=aA (show IsC v b (k+1) X c from Or.inr ⟨unhide T,by
      rcases unhide HC with ⟨h,h2⟩|⟨_,h⟩
      ·omega
      ·exact h⟩)
     rw[hb] at cb
     have hd':¬(c:Int)<((vk b v (v k) 4:Nat):Int):=Yo
     go_wp2_with fail
     go_roundw
     case rel=>exact⟨k+1,c,X,Yo,rfl,rfl,by go_num,unhide D,unhide D2,hc4,unhide HI⟩
     case measure=>simp[intOf]<;>omega
   ·have hb':b k=false:=by simpa using hb
    have D:=aA (isV_out (unhide HV) hb')
    have D2:=aA (show IsC v b (k+1) X c by
     have e:ti b (k+1)=ti b k:=by show ti b k+_=_;rw[if_neg hb];rfl
     unfold IsC;rw[e];exact unhide HC)
    rw[hb'] at cb
    go_wp2_with fail
    go_roundw
    case rel=>exact⟨k+1,c,X,Yo,rfl,rfl,by go_num,unhide D,unhide D2,hc4,unhide HI⟩
    case measure=>simp[intOf]<;>omega
  ·have e9:k=4:=Yo
   subst e9
   rw[show ((4:Nat):Int)=4 from rfl]
   go_wp2_with fail
   go_ret
   exact⟨X,hV,rfl,hI.2.2⟩
def VeI(w:World)(v:Nat→Int)(b:Nat→Bool)(X:Int)(S:Bool)(g:Nat→Bool)(W:World):Prop:=
 VdAt W (w.heap.size+1+1+1+1) X S (.slice (some ⟨w.heap.size+1+1+1,0,none⟩) 4 4)∧Vh 4 W (w.heap.size+1+1+1) 4 4 (tF g)∧F4 W w.heap.size v∧B4 W (w.heap.size+1) b∧VdAt W (w.heap.size+1+1) 0 false (.slice none 0 0)∧Below w.heap.size w W∧w.heap.size+1+1+1+1+1≤W.heap.size
section
variable {w W W':World} {v:Nat→Int} {b:Nat→Bool} {X:Int} {S:Bool} {g:Nat→Bool}
theorem VeI.under(h:VeI w v b X S g W)(k:Below (w.heap.size+1+1+1+1+1) W W'):VeI w v b X S g W':=
 ⟨h.1.under k Yo,h.2.1.same (k.block _ Yo),h.2.2.1.under k Yo,h.2.2.2.1.under k Yo,h.2.2.2.2.1.under k Yo,h.2.2.2.2.2.1.trans (k.mono Yo),Nat.le_trans h.2.2.2.2.2.2 k.size⟩
theorem VeI.put{X':Int}{S':Bool}(h:VeI w v b X S g W)(m:VdAt W' (w.heap.size+1+1+1+1) X' S' (.slice (some ⟨w.heap.size+1+1+1,0,none⟩) 4 4))(k:Kept (w.heap.size+1+1+1+1) W W'):VeI w v b X' S' g W':=
 ⟨m,h.2.1.kept k Yo,h.2.2.1.kept k Yo,h.2.2.2.1.kept k Yo,h.2.2.2.2.1.kept k Yo,aC h.2.2.2.2.2.1 k Yo h.2.2.2.2.2.1.size,Nat.le_trans h.2.2.2.2.2.2 k.size⟩
theorem VeI.set(h:VeI w v b X S g W)(i:Nat)(x:Bool):VeI w v b X S (λj=>if j=i then x else g j) (W.setCell ⟨w.heap.size+1+1+1,i,none⟩ (.bool x)):=by
 have k:=kept_set W (w.heap.size+1+1+1) i (.bool x)
 refine⟨h.1.kept k Yo,Vh.congr (Vh.set h.2.1 i (.bool x)) (λj _=>?_),h.2.2.1.kept k Yo,h.2.2.2.1.kept k Yo,h.2.2.2.2.1.kept k Yo,aC h.2.2.2.2.2.1 k Yo h.2.2.2.2.2.1.size,Nat.le_trans h.2.2.2.2.2.2 k.size⟩
 unfold iJ tF
 by_cases e:j=i
 ·rw[if_pos e];show _=Value.bool (if j=i then x else g j);rw[if_pos e]
 ·rw[if_neg e];show _=Value.bool (if j=i then x else g j);rw[if_neg e]
theorem VeI.congr{g':Nat→Bool}(h:VeI w v b X S g W)(e:∀i,g i=g' i):VeI w v b X S g' W:=by rw[←funext e];exact h
end
theorem aQV:(Tryz.prog.info? 4).map (λi=>(i.zero,i.size,i.bytes))=some (some (.bool false),1,1):=by kernel_rfl
theorem aRN(w:World):∃w',(Instr.makeSlice 51 (.int .i64 4) (.int .i64 4)).run Tryz.prog w=.ok (.slice (some ⟨w.heap.size,0,none⟩) 4 4) w'∧Vh 4 w' w.heap.size 4 4 (tF (λ_=>false))∧Below w.heap.size w w'∧w'.heap.size=w.heap.size+1:=by
 obtain⟨i0,hi,hz0,hz1,hz2⟩:=info_parts aQV
 have hrun:=run_make (P:=Tryz.prog) w 51 4 i0 (.bool false) Tryz.underlying51 hi hz0 .i64 .i64 (4:Nat) (4:Nat) Yo Yo (by rw[hz2];omega) Yo
 rw[hz1] at hrun
 simp only[Int.toNat_natCast,Nat.mul_one] at hrun
 exact⟨_,hrun,Vh.made w 4 (.bool false) 4 (by unfold maxLen;omega),bR _ _,dC _ _⟩
set_option maxHeartbeats 1000000 in
set_option maxRecDepth 100000 in
theorem aPO:aTZ 79:=by
 intro v b w rv
 obtain⟨w1,e1,mA,mB,mC,k1,s1⟩:=aLR w v b
 obtain⟨w2,hmk,m2,k2,s2⟩:=aRN w1
 obtain⟨w3,e3,m3,k3,s3⟩:=aBo w2 0 false (.slice (some ⟨w1.heap.size,0,none⟩) 4 4)
 rw[s1] at m2 m3 hmk
 rw[s2,s1] at m3
 have h3:VeI w v b 0 false (λ_=>false) w3:=⟨m3,m2.below k3,(mA.below k2).below k3,(mB.below k2).below k3,(mC.below k2).below k3,(k1.trans (k2.mono k1.size)).trans (k3.mono Yo),Yo⟩
 rw[s1] at e3
 have S1:=aA s1;have S2:=aA s2
 have c0:=h3.2.2.1.cell (show 0<4 by omega);have c1:=h3.2.2.1.cell (show 1<4 by omega);have c2:=h3.2.2.1.cell (show 2<4 by omega);have c3:=h3.2.2.1.cell (show 3<4 by omega)
 have b0:=h3.2.2.2.1.cell (show 0<4 by omega);have b1:=h3.2.2.2.1.cell (show 1<4 by omega);have b2:=h3.2.2.2.1.cell (show 2<4 by omega);have b3:=h3.2.2.2.1.cell (show 3<4 by omega)
 have hs2:w2.heap.size=w.heap.size+1+1+1+1:=Yo
 have E1:=aA e1;have RV:=aA rv;have E3:=aA e3;have H3:=aA h3
 clear e1 rv e3 h3 mA mB mC m2 m3 k1 k2 k3 s1 s2 s3
 have CT:=aFt v b w3 (unhide RV)
 unfold xI xM at CT
 rw[unhide E3] at c0 c1 c2 c3 b0 b1 b2 b3
 unfold xI xM
 go_enter Tryz.func79,Tryz.ntmps79
 go_wp2_with fail
 rw[←unhide E1,hmk]
 go_wp2_with fail
 rw[←unhide E3] at c0 c1 c2 c3 b0 b1 b2 b3 ⊢
 refine CT.mono ?_
 rintro e w4 ⟨m,hm,rfl,hM,k4⟩
 have h4:=(unhide H3).under (k4.mono (unhide H3).2.2.2.2.2.2)
 have H4:=aA h4;have HM:=aA hM;have HMS:=aA (Nat.le_trans (unhide H3).2.2.2.2.2.2 hm)
 have d0:=h4.1.cell0;have d1:=h4.1.cell1;have d2:=h4.1.cell2;have r0:=h4.2.2.2.2.1.cell0;have r1:=h4.2.2.2.2.1.cell1;have r2:=h4.2.2.2.2.1.cell2
 have g0:=h4.2.2.2.2.1.free 0;have g1:=h4.2.2.2.2.1.free 1;have g2:=h4.2.2.2.2.1.free 2
 clear c0 c1 c2 c3 b0 b1 b2 b3 CT E3 E1 hmk hs2 h4 hM hm k4 H3
 by_cases ht:ti b 4=0
 ·rw[ht]
  rw[show ((0:Nat):Int)=0 from rfl]
  obtain⟨w5,e5,m5,k5⟩:=(unhide H4).2.2.2.2.1.put 0 false (.slice (some ⟨w.heap.size+1+1+1,0,none⟩) 4 4)
  have p0:=m5.cell0;have p1:=m5.cell1;have p2:=m5.cell2
  have E5:=aA e5
  have K5:=aA (aC (unhide H4).2.2.2.2.2.1 k5 Yo (unhide H4).2.2.2.2.2.1.size)
  have O5:=aA (show w5.ownsRow w.heap.size 4 1 (.slice (some ⟨w.heap.size+1+1+1,0,none⟩) 4 4) 4 (rowV (tF (vtA v b 0)) 4) from Vh.owns (Vh.congr ((unhide H4).2.1.kept k5 Yo) (λi _=>by unfold tF vtA;rw[ht];simp)) Yo)
  have HT:=aA ht
  clear e5 m5 k5 ht
  go_wp2_with fail
  rw[←unhide E5]
  refine bodyPost_ret (v:=.agg #[.int .i64 0,.bool false,.slice (some ⟨w.heap.size+1+1+1,0,none⟩) 4 4]) (by simp[results,Tryz.results79,go_sem,p0,p1,p2]) rfl ⟨0,_,Or.inl ⟨unhide HT,rfl⟩,by unfold vtS;rw[unhide HT];rfl,unhide O5,unhide K5⟩
 ·have ht':((ti b 4:Nat):Int)≠0:=Yo
  have te:(((ti b 4:Nat):Int)==0)=false:=by simp;omega
  have h4:=unhide H4
  have c0:=h4.2.2.1.cell (show 0<4 by omega);have c1:=h4.2.2.1.cell (show 1<4 by omega);have c2:=h4.2.2.1.cell (show 2<4 by omega);have c3:=h4.2.2.1.cell (show 3<4 by omega)
  have b0:=h4.2.2.2.1.cell (show 0<4 by omega);have b1:=h4.2.2.2.1.cell (show 1<4 by omega);have b2:=h4.2.2.2.1.cell (show 2<4 by omega);have b3:=h4.2.2.2.1.cell (show 3<4 by omega)
  have CL:=aFu v b m w4 (unhide RV) (unhide HM)
  unfold xI xM at CL
  clear h4
  go_wp2_with fail
  refine CL.mono ?_
  rintro e w5 ⟨X,hV,rfl,k5⟩
  have rX:R64 X:=by
   rcases hV with ⟨h,_⟩|⟨i,_,_,h,_⟩
   ·exact absurd h ht
   ·rw[h];exact unhide RV i
  have h5:=(unhide H4).under (k5.mono (unhide H4).2.2.2.2.2.2)
  have M5:=(unhide HM).below k5
  obtain⟨w6,e6,m6,k6⟩:=h5.1.put0 X
  have h6:=h5.put m6 k6
  have M6:=M5.kept k6 (by have:=unhide HMS;omega)
  have hlk:=M6.look rX Tryz.underlying174
  have hq:vk b v X 4≤4:=aHl b v X 4
  have hn:ti b 4≤4:=aDL b 4
  have es:vtS v b X=decide (((ti b 4:Nat):Int)<2*((vk b v X 4:Nat):Int)):=by unfold vtS;rw[decide_eq_decide];omega
  obtain⟨w7,e7,m7,k7⟩:=m6.put1 (decide (((ti b 4:Nat):Int)<2*((vk b v X 4:Nat):Int)))
  have h7:=h6.put m7 k7
  have t0:=h5.1.cell0;have u0:=h5.1.free 0
  have x0:=h6.1.cell0;have x1:=h6.1.cell1;have x2:=h6.1.free 1
  have y0:=h7.2.2.1.cell (show 0<4 by omega);have y1:=h7.2.2.1.cell (show 1<4 by omega);have y2:=h7.2.2.1.cell (show 2<4 by omega);have y3:=h7.2.2.1.cell (show 3<4 by omega)
  have E6:=aA e6;have E7:=aA e7;have H7:=aA h7;have ES:=aA es;have HV:=aA hV;have HT:=aA (show 0<ti b 4 by omega)
  rw[e7,e6] at y0 y1 y2 y3
  rw[e6] at hlk x0 x1 x2
  clear c0 c1 c2 c3 b0 b1 b2 b3 d0 d1 d2 r0 r1 r2 g0 g1 g2 CL hV k5 h5 M5 m6 k6 h6 M6 m7 k7 h7 e6 e7 es ht ht' te rX
  go_wp2_with fail
  rw[←unhide E6, ←unhide E7]
  generalize decide (((ti b 4:Nat):Int)<2*((vk b v X 4:Nat):Int))=SV at*
  clear t0 u0 x0 x1 x2 y0 y1 y2 y3 hlk E6 E7
  go_loopw [35] (λis wr=>∃k:Nat,k≤4∧is=.int .i64 (k:Nat)∧VeI w v b X SV (λi=>decide (i<k)&&(v i==X)) wr) (λis _=>4-(intOf is).toNat)
  case atStart=>exact⟨0,Yo,rfl,(unhide H7).congr (λi=>by simp)⟩
  case round=>
   obtain⟨k,hk,rfl,hI⟩:=hrel
   rename World=>wr
   by_cases hin:k<4
   ·have hin':(k:Int)<4:=Yo
    have hx:=zO v hin wr
    have d0:=hI.1.cell0;have d2:=hI.1.cell2;have ck:=hI.2.1.cell hin;have fk:=hI.2.1.free k
    unfold tF at ck
    obtain⟨w8,e8⟩:∃w8,w8=wr.setCell ⟨w.heap.size+1+1+1,k,none⟩ (.bool (v k==X)):=⟨_,rfl⟩
    have H8:=hI.set k (v k==X)
    rw[←e8] at H8
    have H9:=aA (H8.congr (g':=λi=>decide (i<k+1)&&(v i==X)) (λi=>by
     by_cases e:i=k
     ·subst e;simp
     ·rw[if_neg e,show decide (i<k)=decide (i<k+1) by rw[decide_eq_decide];omega]))
    have E8:=aA e8
    clear e8 H8 hI
    go_wp2_with fail
    rw[←unhide E8]
    go_wp2_with fail
    go_roundw
    case rel=>exact⟨k+1,Yo,by go_num,unhide H9⟩
    case measure=>simp[intOf]<;>omega
   ·have e9:k=4:=Yo
    subst e9
    rw[show ((4:Nat):Int)=4 from rfl]
    have d0:=hI.1.cell0;have d1:=hI.1.cell1;have d2:=hI.1.cell2
    have r0:=hI.2.2.2.2.1.cell0;have r1:=hI.2.2.2.2.1.cell1;have r2:=hI.2.2.2.2.1.cell2
    have g0:=hI.2.2.2.2.1.free 0;have g1:=hI.2.2.2.2.1.free 1;have g2:=hI.2.2.2.2.1.free 2
    obtain⟨w8,e8,m8,k8⟩:=hI.2.2.2.2.1.put X SV (.slice (some ⟨w.heap.size+1+1+1,0,none⟩) 4 4)
    have p0:=m8.cell0;have p1:=m8.cell1;have p2:=m8.cell2
    have K8:=aA (aC hI.2.2.2.2.2.1 k8 Yo hI.2.2.2.2.2.1.size)
    have O8:=aA (show w8.ownsRow w.heap.size 4 1 (.slice (some ⟨w.heap.size+1+1+1,0,none⟩) 4 4) 4 (rowV (tF (vtA v b X)) 4) from Vh.owns (Vh.congr (hI.2.1.kept k8 Yo) (λi hi=>by
     have:=aDr i v X (unhide HT)
     unfold tF vtA
     rw[this]
     simp[hi])) Yo)
    have E8:=aA e8
    clear e8 m8 k8 hI
    go_wp2_with fail
    rw[←unhide E8]
    refine bodyPost_ret (v:=.agg #[.int .i64 X,.bool SV,.slice (some ⟨w.heap.size+1+1+1,0,none⟩) 4 4]) (by simp[results,Tryz.results79,go_sem,p0,p1,p2]) rfl ⟨X,_,unhide HV,by rw[unhide ES];rfl,unhide O8,unhide K8⟩
end Go.Proofs.YtdhblehhgpdpdacGreat
