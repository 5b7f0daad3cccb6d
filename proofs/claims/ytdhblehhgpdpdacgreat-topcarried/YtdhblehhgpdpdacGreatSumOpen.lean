import Derived.Test.YtdhblehhgpdpdacGreatNear88
import Derived.Test.YtdhblehhgpdpdacGreatFrameOps
namespace Go.Proofs.YtdhblehhgpdpdacGreat
open Go.RowKit
def ClE(b o b2 o2:Nat)(x y:Nat)(u:World):Prop:=u.cell? ⟨b,o,none⟩=some (bV x)∧u.cell? ⟨b2,o2,none⟩=some (bV y)
set_option maxHeartbeats 1000000 in
theorem aIt (ao bo : Option Addr) (n cap cap2 : Nat) (g f : Nat → Nat) (w : World) (hn : n ≤ 9223372036854775807) (ha : Rd w ao n (bF g)) (hb : Rd w bo n (bF f)) :
  Calls Tryz.prog 68 #[.slice ao n cap,.slice bo n cap2] w λe w'=>∃v,e=.returned (.bool v)∧(v=true↔∀i,i<n→g i=f i)∧Below w.heap.size w w':=by
 have HA:=aA ha;have HB:=aA hb
 clear ha hb
 go_enter Tryz.func68,Tryz.ntmps68
 go_wp2_with fail
 go_loopw [13] (λis wr=>∃i:Nat,is=.int .i64 i∧i≤n∧(∀j,j<i→g j=f j)∧Below w.heap.size w wr) (λis _=>n-(intOf is).toNat)
 case atStart=>exact⟨0,rfl,Nat.zero_le _,λj hj=>absurd hj Yo,Below.refl _ _⟩
 case round=>
  obtain⟨i,rfl,hi,he,hk⟩:=hrel
  have HE:=aA he;have K1:=aA hk
  clear he hk
  by_cases hin:i<n
  ·obtain⟨b,o,rfl,ca⟩:=unhide HA Yo
   obtain⟨b2,o2,rfl,cb⟩:=unhide HB Yo
   have hS:=aA (show ClE b (o+i) b2 (o2+i) (g i) (f i) _ from ⟨bE (ca i hin) (unhide K1),bE (cb i hin) (unhide K1)⟩)
   clear ca cb
   go_wp2_with fail
   rename World=>wr
   have hS2:ClE b (o+i) b2 (o2+i) (g i) (f i) wr.drew:=unhide hS
   by_cases hq:g i=f i
   ·have _:=True.intro
    refine wp_leaves (λa0 a' w'=>w'=wr.drew∧a'=(((((((((a0.put (some 16) (.slice (some ⟨b,o,none⟩) n cap)).put (some 17) (.int .i64 (i:Nat))).put (some 18) (.pointer (some ⟨b,o+i,none⟩))).put (some 19) (bV (g i))).put (some 20) (.slice (some ⟨b2,o2,none⟩) n cap2)).put (some 21) (.int .i64 (i:Nat))).put (some 22) (.pointer (some ⟨b2,o2+i,none⟩))).put (some 23) (bV (f i))).put (some 24) (.bool false))) ?reg ?rest
    case reg=>
     intro A eA
     have b0:A.eval (.tmp 0)=.slice (some ⟨b,o,none⟩) n cap:=by rw[eA];rfl
     have b1:A.eval (.tmp 1)=.slice (some ⟨b2,o2,none⟩) n cap2:=by rw[eA];rfl
     have b5:A.eval (.tmp 5)=.int .i64 (i:Nat):=by rw[eA];rfl
     have hs:26≤A.tmps.size:=by rw[eA];exact of_decide_eq_true rfl
     clear eA
     refine nZ (S:=ClE b (o+i) b2 (o2+i) (g i) (f i)) (.rd 0 (.rd 1 (.rd 2 (.rd 3 (.rd 4 (.rd 5 (.rd 6 (.rd 7 (.rd 8 .fin))))))))) [] (by kernel_rfl) (by kernel_rfl) ?_
     refine aY (v:=(.slice (some ⟨b,o,none⟩) n cap)) rfl Yn Yw hS2 (λwx _=>aH (.tmp 0) rfl b0 wx) ?_
     show SeqI _ _ _ _ _ _ (Act.put _ (some 16) _) _
     refine aY (v:=(.int .i64 (i:Nat))) rfl Yn Yw hS2 (λwx _=>aH (.tmp 5) rfl (Ex b5) wx) ?_
     show SeqI _ _ _ _ _ _ (Act.put _ (some 17) _) _
     refine aY (v:=(.pointer (some ⟨b,o+i,none⟩))) rfl Yn Yw hS2 (λwx _=>oJ (.tmp 16) (.tmp 17) rfl (Ex Et) Es hin wx) ?_
     show SeqI _ _ _ _ _ _ (Act.put _ (some 18) _) _
     refine aY (v:=(bV (g i))) rfl Yn Yw hS2 (λwx hx=>qI (.tmp 18) rfl Es hx.1) ?_
     show SeqI _ _ _ _ _ _ (Act.put _ (some 19) _) _
     refine aY (v:=(.slice (some ⟨b2,o2,none⟩) n cap2)) rfl Yn Yw hS2 (λwx _=>aH (.tmp 1) rfl (Ex (Ex (Ex (Ex b1)))) wx) ?_
     show SeqI _ _ _ _ _ _ (Act.put _ (some 20) _) _
     refine aY (v:=(.int .i64 (i:Nat))) rfl Yn Yw hS2 (λwx _=>aH (.tmp 5) rfl (Ex (Ex (Ex (Ex (Ex b5))))) wx) ?_
     show SeqI _ _ _ _ _ _ (Act.put _ (some 21) _) _
     refine aY (v:=(.pointer (some ⟨b2,o2+i,none⟩))) rfl Yn Yw hS2 (λwx _=>oJ (.tmp 20) (.tmp 21) rfl (Ex Es) Es hin wx) ?_
     show SeqI _ _ _ _ _ _ (Act.put _ (some 22) _) _
     refine aY (v:=(bV (f i))) rfl Yn Yw hS2 (λwx hx=>qI (.tmp 22) rfl Es hx.2) ?_
     show SeqI _ _ _ _ _ _ (Act.put _ (some 23) _) _
     refine aY (v:=(.bool false)) rfl Yn Yw hS2 (λwx _=>aLy (.tmp 19) (.tmp 23) rfl (Ex (Ex (Ex (Ex Es)))) Es hq wx) ?_
     show SeqI _ _ _ _ _ _ (Act.put _ (some 24) _) _
     refine mZ ?_
     exact⟨rfl,rfl,rfl⟩
    case rest=>
     rintro a' w3 ⟨rfl,rfl⟩
     have K2:=aA (aQ (unhide K1))
     have HQ:=aA hq
     clear hS hS2 hq
     go_frame
     go_wp2_with fail
     go_roundw
     case rel=>exact⟨i+1,by go_num,Yo,λj hj=>by
      rcases Nat.lt_or_ge j i with h|h
      ·exact unhide HE j h
      ·obtain rfl:j=i:=Yo
       exact unhide HQ,unhide K2⟩
     case measure=>simp[intOf]<;>omega
   ·have _:=True.intro
    refine wp_leaves (λa0 a' w'=>w'=wr.drew∧a'=(((((((((a0.put (some 16) (.slice (some ⟨b,o,none⟩) n cap)).put (some 17) (.int .i64 (i:Nat))).put (some 18) (.pointer (some ⟨b,o+i,none⟩))).put (some 19) (bV (g i))).put (some 20) (.slice (some ⟨b2,o2,none⟩) n cap2)).put (some 21) (.int .i64 (i:Nat))).put (some 22) (.pointer (some ⟨b2,o2+i,none⟩))).put (some 23) (bV (f i))).put (some 24) (.bool true))) ?reg ?rest
    case reg=>
     intro A eA
     have b0:A.eval (.tmp 0)=.slice (some ⟨b,o,none⟩) n cap:=by rw[eA];rfl
     have b1:A.eval (.tmp 1)=.slice (some ⟨b2,o2,none⟩) n cap2:=by rw[eA];rfl
     have b5:A.eval (.tmp 5)=.int .i64 (i:Nat):=by rw[eA];rfl
     have hs:26≤A.tmps.size:=by rw[eA];exact of_decide_eq_true rfl
     clear eA
     refine nZ (S:=ClE b (o+i) b2 (o2+i) (g i) (f i)) (.rd 0 (.rd 1 (.rd 2 (.rd 3 (.rd 4 (.rd 5 (.rd 6 (.rd 7 (.rd 8 .fin))))))))) [] (by kernel_rfl) (by kernel_rfl) ?_
     refine aY (v:=(.slice (some ⟨b,o,none⟩) n cap)) rfl Yn Yw hS2 (λwx _=>aH (.tmp 0) rfl b0 wx) ?_
     show SeqI _ _ _ _ _ _ (Act.put _ (some 16) _) _
     refine aY (v:=(.int .i64 (i:Nat))) rfl Yn Yw hS2 (λwx _=>aH (.tmp 5) rfl (Ex b5) wx) ?_
     show SeqI _ _ _ _ _ _ (Act.put _ (some 17) _) _
     refine aY (v:=(.pointer (some ⟨b,o+i,none⟩))) rfl Yn Yw hS2 (λwx _=>oJ (.tmp 16) (.tmp 17) rfl (Ex Et) Es hin wx) ?_
     show SeqI _ _ _ _ _ _ (Act.put _ (some 18) _) _
     refine aY (v:=(bV (g i))) rfl Yn Yw hS2 (λwx hx=>qI (.tmp 18) rfl Es hx.1) ?_
     show SeqI _ _ _ _ _ _ (Act.put _ (some 19) _) _
     refine aY (v:=(.slice (some ⟨b2,o2,none⟩) n cap2)) rfl Yn Yw hS2 (λwx _=>aH (.tmp 1) rfl (Ex (Ex (Ex (Ex b1)))) wx) ?_
     show SeqI _ _ _ _ _ _ (Act.put _ (some 20) _) _
     refine aY (v:=(.int .i64 (i:Nat))) rfl Yn Yw hS2 (λwx _=>aH (.tmp 5) rfl (Ex (Ex (Ex (Ex (Ex b5))))) wx) ?_
     show SeqI _ _ _ _ _ _ (Act.put _ (some 21) _) _
     refine aY (v:=(.pointer (some ⟨b2,o2+i,none⟩))) rfl Yn Yw hS2 (λwx _=>oJ (.tmp 20) (.tmp 21) rfl (Ex Es) Es hin wx) ?_
     show SeqI _ _ _ _ _ _ (Act.put _ (some 22) _) _
     refine aY (v:=(bV (f i))) rfl Yn Yw hS2 (λwx hx=>qI (.tmp 22) rfl Es hx.2) ?_
     show SeqI _ _ _ _ _ _ (Act.put _ (some 23) _) _
     refine aY (v:=(.bool true)) rfl Yn Yw hS2 (λwx _=>aLw (.tmp 19) (.tmp 23) rfl (Ex (Ex (Ex (Ex Es)))) Es hq wx) ?_
     show SeqI _ _ _ _ _ _ (Act.put _ (some 24) _) _
     refine mZ ?_
     exact⟨rfl,rfl,rfl⟩
    case rest=>
     rintro a' w3 ⟨rfl,rfl⟩
     have K2:=aA (aQ (unhide K1))
     have HQ:=aA hq
     clear hS hS2 hq
     go_frame
     go_wp2_with fail
     go_ret
     exact⟨false,rfl,⟨λh=>by (cases h),λh=>absurd (h i hin) (unhide HQ)⟩,unhide K2⟩
  ·have e6:i=n:=Yo
   subst e6
   go_wp2_with fail
   go_ret
   exact⟨true,rfl,⟨λ_=>unhide HE,λ_=>rfl⟩,unhide K1⟩
def vE(g:Nat→Nat)(n:Nat):Prop:=4≤n∧∀i,i<4→g (n-4+i)=tlF (moreN 0 g (n-4)) i
set_option maxHeartbeats 1000000 in
theorem aBB (ao : Option Addr) (len cap : Nat) (g : Nat → Nat) (w : World) (hg : ∀ i, g i < 256) (hl : len ≤ 140737488355328) (hc : len ≤ cap) (hr : Rd w ao len (bF g)) :
  Calls Tryz.prog 47 #[.slice ao len cap] w λe w'=>∃v ok,e=.returned (.tuple #[v,.bool ok])∧(ok=true↔vE g len)∧(ok=true→w'.ownsRow w.heap.size 5 1 v (len-4) (rowV (bF g) (len-4)))∧(ok=false→v=.slice none 0 0)∧Below w.heap.size w w':=by
 by_cases h4:len<4
 ·have h42:(len:Int)<4:=Yo
  clear hr
  go_enter Tryz.func47,Tryz.ntmps47
  go_wp2_with fail
  go_ret2
  exact⟨_,false,rfl,⟨λh=>by (cases h),λh=>absurd h.1 Yo⟩,λh=>by (cases h),λ_=>rfl,Below.refl _ _⟩
 ·obtain⟨m,rfl⟩:∃m,len=m+4:=⟨len-4,Yo⟩
  have h42:¬((m:Int)+4<4):=Yo
  obtain⟨b,o,rfl,hcs⟩:=hr Yo
  have HR:=aA hr;have HG:=aA hg
  have RT:=aA (show Rd w (some ⟨b,o+m,none⟩) 4 (bF (λi=>g (m+i))) from λ_=>⟨b,o+m,rfl,λi hi=>by rw[Nat.add_assoc];exact hcs (m+i) Yo⟩)
  have RM:=aA (show Rd w (some ⟨b,o,none⟩) m (bF g) from hr.less Yo)
  clear hr hg hcs h4
  rw[show m+4-4=m by omega]
  go_enter Tryz.func47,Tryz.ntmps47
  go_wp2_with fail
  refine (aCb (some ⟨b,o,none⟩) m cap g _ (unhide HG) Yo (unhide RM)).mono ?_
  rintro e w3 ⟨rfl,k3⟩
  obtain⟨T,eT⟩:∃T:Array Value,T=(rowV (bF (tlF (moreN 0 g m))) 4).toArray:=⟨_,rfl⟩
  rw[←eT]
  have st:=wU Tryz.prog w3.heap.size 118 #[.int .u8 0,.int .u8 0,.int .u8 0,.int .u8 0] T (w3.alloc (.cells #[.int .u8 0,.int .u8 0,.int .u8 0,.int .u8 0] 118)) (heap_alloc_new _ _) (by rw[eT];rfl) (by rw[eT,Array.all_eq_true_iff_forall_mem];intro u hu;exact mU _ 4 (λi _=>rfl) u (by simpa using hu))
  rw[World.setRow_alloc_new] at st
  have sT:T.size=4:=by rw[eT];rfl
  have k4:=k3.trans ((bR w3 (.cells T 118)).mono k3.size)
  have s4:Rd (w3.alloc (.cells T 118)) (some ⟨w3.heap.size,0,none⟩) 4 (bF (tlF (moreN 0 g m))):=
   (Vh.of_row (t:=118) (bF (tlF (moreN 0 g m))) 4 (by unfold maxLen;omega) (by rw[heap_alloc_new,eT];rfl)).rd
  have K4:=aA k4;have S4:=aA s4
  clear k3 k4 s4 eT
  go_wp2_with fail
  obtain⟨q,eq⟩:∃q,q=w3.heap.size:=⟨_,rfl⟩
  obtain⟨w4,e4⟩:∃w4,w4=w3.alloc (Obj.cells T 118):=⟨_,rfl⟩
  rw[←eq] at S4 ⊢
  rw[←e4] at S4 K4 ⊢
  clear e4 eq st sT
  refine wp_leaves (λa0 a' w'=>∃v:Bool,(v=true↔∀i,i<4→g (m+i)=tlF (moreN 0 g m) i)∧Below w.heap.size w w'∧a'=(((((((a0.put (some 17) (.slice (some ⟨b,o,none⟩) (m+4) cap)).put (some 18) (.slice (some ⟨b,o,none⟩) m cap)).put (some 19) (.int .i64 (m:Nat))).put (some 20) (.slice (some ⟨b,o+m,none⟩) 4 (cap-m))).put (some 21) (.slice (some ⟨q,0,none⟩) 4 4)).put (some 22) (.bool v)).put (some 23) (.bool (!v)))) ?reg ?rest
  case reg=>
   intro A eA
   have b0:A.eval (.tmp 0)=.slice (some ⟨b,o,none⟩) (m+4) cap:=by rw[eA];rfl
   have b4:A.eval (.tmp 4)=.slice (some ⟨b,o,none⟩) m cap:=by rw[eA];rfl
   have b5:A.eval (.tmp 5)=.pointer (some ⟨q,0,none⟩):=by rw[eA];rfl
   have hs:31≤A.tmps.size:=by rw[eA];exact of_decide_eq_true rfl
   clear eA
   refine nZ (S:=λ_=>True) (.rd 0 (.rd 1 (.rd 2 (.rd 3 (.rd 4 (.go 5 (.rd 6 .fin))))))) [] (by kernel_rfl) (by kernel_rfl) ?_
   refine aY (v:=(.slice (some ⟨b,o,none⟩) (m+4) cap)) rfl Yn Yw trivial (λwx _=>aH (.tmp 0) rfl b0 wx) ?_
   show SeqI _ _ _ _ _ _ (Act.put _ (some 17) _) _
   refine aY (v:=(.slice (some ⟨b,o,none⟩) m cap)) rfl Yn Yw trivial (λwx _=>aH (.tmp 4) rfl (Ex b4) wx) ?_
   show SeqI _ _ _ _ _ _ (Act.put _ (some 18) _) _
   refine aY (v:=(.int .i64 (m:Nat))) rfl Yn Yw trivial (λwx _=>aKe (.tmp 18) rfl Es wx) ?_
   show SeqI _ _ _ _ _ _ (Act.put _ (some 19) _) _
   refine aY (v:=(.slice (some ⟨b,o+m,none⟩) 4 (cap-m))) rfl Yn Yw trivial (λwx _=>(aLa (.tmp 17) (.tmp 19) rfl (Ex (Ex Et)) Es Yo Yo wx).trans (by rw[Nat.add_sub_cancel_left])) ?_
   show SeqI _ _ _ _ _ _ (Act.put _ (some 20) _) _
   refine aY (v:=(.slice (some ⟨q,0,none⟩) 4 4)) rfl Yn Yw trivial (λwx _=>aJB (.tmp 5) rfl (Ex (Ex (Ex (Ex b5)))) wx) ?_
   show SeqI _ _ _ _ _ _ (Act.put _ (some 21) _) _
   refine iN rfl Yw (λK hK=>?_)
   refine dB _ 68 (.tmp 20) (.tmp 21) #[33,33] rfl (Ex Es) Es (aFF _ _ _) (aIt (some ⟨b,o+m,none⟩) (some ⟨q,0,none⟩) 4 (cap-m) 4 (λi=>g (m+i)) (tlF (moreN 0 g m)) _ Yo (((unhide RT).below (unhide K4)).below (aQ (Below.refl _ _))) ((unhide S4).below (aQ (Below.refl _ _)))) ?_
   rintro e w5 ⟨v,rfl,hv,j5⟩
   refine⟨_,rfl,hK _ _ (λ_=>trivial) ?_⟩
   clear hK K
   show SeqI _ _ _ _ _ _ (Act.put _ (some 22) _) _
   refine aY (v:=(.bool (!v))) rfl Yn Yw trivial (λwx _=>dQ (.tmp 22) _ rfl Es wx) ?_
   show SeqI _ _ _ _ _ _ (Act.put _ (some 23) _) _
   refine mZ ?_
   exact⟨rfl,v,hv,(aQ (unhide K4)).trans (j5.mono (unhide K4).size),rfl⟩
  case rest=>
   rintro a' w5 ⟨v,hv,k5,rfl⟩
   have HV:=aA hv;have K5:=aA k5
   clear hv k5
   cases v
   ·go_frame
    go_wp2_with fail
    go_ret2
    exact⟨_,false,rfl,⟨λh=>by (cases h),λh=>by have h2:=(unhide HV).2 (λi hi=>by have:=h.2 i hi;rw[show m+4-4=m by omega] at this;exact this);cases h2⟩,λh=>by (cases h),λ_=>rfl,unhide K5⟩
   ·go_frame
    go_wp2_with (at_make;refine wpList_makeC _ rfl _ _ rfl m m rfl rfl Yo Yo ?_)
    intro w6 z6 v6 j6
    have V6:=aA v6;have K6:=aA ((unhide K5).trans (j6.mono (unhide K5).size));have J6:=aA j6
    clear v6 z6 j6
    go_wp2_with (show wpList _ _ _ ({ dst:=_,op:=Op.call { callee:=Callee.builtin Builtin.copy,args:=_,argTypes:=_ },type:=_,pos:=_,after:=_,guard:=_ }::_) _ _;refine wpList_copyB _ rfl _ _ rfl w5.heap.size m m _ rfl (unhide V6) (some ⟨b,o,none⟩) cap (bF g) rfl ((unhide RM).below (unhide K6)) (bF_one g) ?_)
    intro w7 v7 k7
    have z5:=(unhide K5).size
    have V7:=aA v7;have K7:=aA (aC (unhide K6) k7 z5 (unhide K6).size)
    clear v7 k7
    go_wp2_with fail
    go_ret2
    exact⟨_,true,rfl,⟨λ_=>⟨Yo,λi hi=>by rw[show m+4-4=m by omega];exact (unhide HV).1 (by trivial) i hi⟩,λ_=>rfl⟩,λ_=>(unhide V7).owns z5,λh=>by (cases h),unhide K7⟩
end Go.Proofs.YtdhblehhgpdpdacGreat
