import Derived.Test.YthimcecbgpamdaaGreatNear167
set_option maxHeartbeats 1000000
namespace Go.Proofs.YthimcecbgpamdaaGreat
open Go.RowKit
def ClE(b o b2 o2:Nat)(x y:Nat)(u:World):Prop:=u.cell? ⟨b,o,none⟩=some (bV x)/\u.cell? ⟨b2,o2,none⟩=some (bV y)
theorem aEl(ao bo:Option Addr)(n cap cap2:Nat)(g f:Nat->Nat)(w:World)(hn:n<=9223372036854775807)(ha:Rd w ao n (bF g))(hb:Rd w bo n (bF f)):Calls Tryz.prog 204 #[.slice ao n cap,.slice bo n cap2] w λe w'=>∃v,e=.returned (.bool v)/\(v=true↔∀i,i<n->g i=f i)/\Below w.heap.size w w':=by
 have HA:=aB ha;have HB:=aB hb;clear ha hb;go_enter Tryz.func204,Tryz.ntmps204
 go_wp2_with fail
 go_loopw [13] (λis wr=>∃i:Nat,is=.int .i64 i/\i<=n/\(∀j,j<i->g j=f j)/\Below w.heap.size w wr) (λis _=>n-(intOf is).toNat)
 case atStart=>exact⟨0,rfl,Xz _,λj hj=>absurd hj Yo,Below.refl _ _⟩
 case round=>
  obtain⟨i,rfl,hi,he,hk⟩:=hrel;have HE:=aB he;have K1:=aB hk;clear he hk;by_cases hin:i<n
  .obtain⟨b,o,rfl,ca⟩:=aA HA Yo;obtain⟨b2,o2,rfl,cb⟩:=aA HB Yo;have hS:=aB (show ClE b (o+i) b2 (o2+i) (g i) (f i) _ from ⟨aM (ca i hin) (aA K1),aM (cb i hin) (aA K1)⟩);clear ca cb;go_wp2_with fail
   rename World=>wr
   have hS2:ClE b (o+i) b2 (o2+i) (g i) (f i) wr.drew:=aA hS;by_cases hq:g i=f i
   .have _:=True.intro;refine wp_leaves (λa0 a' w'=>w'=wr.drew/\a'=(((((((((a0.put (some 16) (.slice (some ⟨b,o,none⟩) n cap)).put (some 17) (.int .i64 (i:Nat))).put (some 18) (.pointer (some ⟨b,o+i,none⟩))).put (some 19) (bV (g i))).put (some 20) (.slice (some ⟨b2,o2,none⟩) n cap2)).put (some 21) (.int .i64 (i:Nat))).put (some 22) (.pointer (some ⟨b2,o2+i,none⟩))).put (some 23) (bV (f i))).put (some 24) (.bool false))) ?reg ?rest
    case reg=>
     intro A eA;have b0:A.eval (.tmp 0)=.slice (some ⟨b,o,none⟩) n cap:=by rw[eA];rfl
     have b1:A.eval (.tmp 1)=.slice (some ⟨b2,o2,none⟩) n cap2:=by rw[eA];rfl
     have b5:A.eval (.tmp 5)=.int .i64 (i:Nat):=by rw[eA];rfl
     have hs:26<=A.tmps.size:=by rw[eA];exact Xu rfl
     clear eA;refine oN (S:=ClE b (o+i) b2 (o2+i) (g i) (f i)) (.rd 0 (.rd 1 (.rd 2 (.rd 3 (.rd 4 (.rd 5 (.rd 6 (.rd 7 (.rd 8 .fin))))))))) [] Yl Yl ?_;refine bC (v:=(.slice (some ⟨b,o,none⟩) n cap)) rfl Yn Yw hS2 (λwx _=>dL (.tmp 0) rfl b0 wx) ?_;show SeqI _ _ _ _ _ _ (Act.put _ (some 16) _) _
     refine bC (v:=(.int .i64 (i:Nat))) rfl Yn Yw hS2 (λwx _=>dL (.tmp 5) rfl (Ex b5) wx) ?_;show SeqI _ _ _ _ _ _ (Act.put _ (some 17) _) _
     refine bC (v:=(.pointer (some ⟨b,o+i,none⟩))) rfl Yn Yw hS2 (λwx _=>lW (.tmp 16) (.tmp 17) rfl (Ex Et) Es hin wx) ?_;show SeqI _ _ _ _ _ _ (Act.put _ (some 18) _) _
     refine bC (v:=(bV (g i))) rfl Yn Yw hS2 (λwx hx=>nG (.tmp 18) rfl Es hx.1) ?_;show SeqI _ _ _ _ _ _ (Act.put _ (some 19) _) _
     refine bC (v:=(.slice (some ⟨b2,o2,none⟩) n cap2)) rfl Yn Yw hS2 (λwx _=>dL (.tmp 1) rfl (Ex (Ex (Ex (Ex b1)))) wx) ?_;show SeqI _ _ _ _ _ _ (Act.put _ (some 20) _) _
     refine bC (v:=(.int .i64 (i:Nat))) rfl Yn Yw hS2 (λwx _=>dL (.tmp 5) rfl (Ex (Ex (Ex (Ex (Ex b5))))) wx) ?_;show SeqI _ _ _ _ _ _ (Act.put _ (some 21) _) _
     refine bC (v:=(.pointer (some ⟨b2,o2+i,none⟩))) rfl Yn Yw hS2 (λwx _=>lW (.tmp 20) (.tmp 21) rfl (Ex Es) Es hin wx) ?_;show SeqI _ _ _ _ _ _ (Act.put _ (some 22) _) _
     refine bC (v:=(bV (f i))) rfl Yn Yw hS2 (λwx hx=>nG (.tmp 22) rfl Es hx.2) ?_;show SeqI _ _ _ _ _ _ (Act.put _ (some 23) _) _
     refine bC (v:=(.bool false)) rfl Yn Yw hS2 (λwx _=>aHJ (.tmp 19) (.tmp 23) rfl (Ex (Ex (Ex (Ex Es)))) Es hq wx) ?_;show SeqI _ _ _ _ _ _ (Act.put _ (some 24) _) _
     refine oW ?_;exact⟨rfl,rfl,rfl⟩
    case rest=>
     rintro a' w3 ⟨rfl,rfl⟩;have K2:=aB (aU (aA K1));have HQ:=aB hq;clear hS hS2 hq
     go_frame
     go_wp2_with fail
     go_roundw
     case rel=>exact⟨i+1,by go_num,Yo,λj hj=>by
      rcases Nat.lt_or_ge j i with h|h
      .exact aA HE j h
      .obtain rfl:j=i:=Yo;exact aA HQ,aA K2⟩
     case measure=>simp[intOf]<;>omega
   .have _:=True.intro;refine wp_leaves (λa0 a' w'=>w'=wr.drew/\a'=(((((((((a0.put (some 16) (.slice (some ⟨b,o,none⟩) n cap)).put (some 17) (.int .i64 (i:Nat))).put (some 18) (.pointer (some ⟨b,o+i,none⟩))).put (some 19) (bV (g i))).put (some 20) (.slice (some ⟨b2,o2,none⟩) n cap2)).put (some 21) (.int .i64 (i:Nat))).put (some 22) (.pointer (some ⟨b2,o2+i,none⟩))).put (some 23) (bV (f i))).put (some 24) (.bool true))) ?reg ?rest
    case reg=>
     intro A eA;have b0:A.eval (.tmp 0)=.slice (some ⟨b,o,none⟩) n cap:=by rw[eA];rfl
     have b1:A.eval (.tmp 1)=.slice (some ⟨b2,o2,none⟩) n cap2:=by rw[eA];rfl
     have b5:A.eval (.tmp 5)=.int .i64 (i:Nat):=by rw[eA];rfl
     have hs:26<=A.tmps.size:=by rw[eA];exact Xu rfl
     clear eA;refine oN (S:=ClE b (o+i) b2 (o2+i) (g i) (f i)) (.rd 0 (.rd 1 (.rd 2 (.rd 3 (.rd 4 (.rd 5 (.rd 6 (.rd 7 (.rd 8 .fin))))))))) [] Yl Yl ?_;refine bC (v:=(.slice (some ⟨b,o,none⟩) n cap)) rfl Yn Yw hS2 (λwx _=>dL (.tmp 0) rfl b0 wx) ?_;show SeqI _ _ _ _ _ _ (Act.put _ (some 16) _) _
     refine bC (v:=(.int .i64 (i:Nat))) rfl Yn Yw hS2 (λwx _=>dL (.tmp 5) rfl (Ex b5) wx) ?_;show SeqI _ _ _ _ _ _ (Act.put _ (some 17) _) _
     refine bC (v:=(.pointer (some ⟨b,o+i,none⟩))) rfl Yn Yw hS2 (λwx _=>lW (.tmp 16) (.tmp 17) rfl (Ex Et) Es hin wx) ?_;show SeqI _ _ _ _ _ _ (Act.put _ (some 18) _) _
     refine bC (v:=(bV (g i))) rfl Yn Yw hS2 (λwx hx=>nG (.tmp 18) rfl Es hx.1) ?_;show SeqI _ _ _ _ _ _ (Act.put _ (some 19) _) _
     refine bC (v:=(.slice (some ⟨b2,o2,none⟩) n cap2)) rfl Yn Yw hS2 (λwx _=>dL (.tmp 1) rfl (Ex (Ex (Ex (Ex b1)))) wx) ?_;show SeqI _ _ _ _ _ _ (Act.put _ (some 20) _) _
     refine bC (v:=(.int .i64 (i:Nat))) rfl Yn Yw hS2 (λwx _=>dL (.tmp 5) rfl (Ex (Ex (Ex (Ex (Ex b5))))) wx) ?_;show SeqI _ _ _ _ _ _ (Act.put _ (some 21) _) _
     refine bC (v:=(.pointer (some ⟨b2,o2+i,none⟩))) rfl Yn Yw hS2 (λwx _=>lW (.tmp 20) (.tmp 21) rfl (Ex Es) Es hin wx) ?_;show SeqI _ _ _ _ _ _ (Act.put _ (some 22) _) _
     refine bC (v:=(bV (f i))) rfl Yn Yw hS2 (λwx hx=>nG (.tmp 22) rfl Es hx.2) ?_;show SeqI _ _ _ _ _ _ (Act.put _ (some 23) _) _
     refine bC (v:=(.bool true)) rfl Yn Yw hS2 (λwx _=>aHZ (.tmp 19) (.tmp 23) rfl (Ex (Ex (Ex (Ex Es)))) Es hq wx) ?_;show SeqI _ _ _ _ _ _ (Act.put _ (some 24) _) _
     refine oW ?_;exact⟨rfl,rfl,rfl⟩
    case rest=>
     rintro a' w3 ⟨rfl,rfl⟩;have K2:=aB (aU (aA K1));have HQ:=aB hq;clear hS hS2 hq
     go_frame
     go_wp2_with fail
     go_ret
     exact⟨false,rfl,⟨λh=>by (cases h),λh=>absurd (h i hin) (aA HQ)⟩,aA K2⟩
  .have e6:i=n:=Yo;subst e6;go_wp2_with fail
   go_ret
   exact⟨true,rfl,⟨λ_=>aA HE,λ_=>rfl⟩,aA K1⟩
def oZ(g:Nat->Nat)(n:Nat):Prop:=4<=n/\∀i,i<4->g (n-4+i)=tlF (moreN 0 g (n-4)) i
theorem GX(ao:Option Addr)(len cap:Nat)(g:Nat->Nat)(w:World)(hg:∀i,g i<256)(hl:len<=140737488355328)(hc:len<=cap)(hr:Rd w ao len (bF g)):Calls Tryz.prog 185 #[.slice ao len cap] w λe w'=>∃v ok,e=.returned (.tuple #[v,.bool ok])/\(ok=true↔oZ g len)/\(ok=true->w'.ownsRow w.heap.size 5 1 v (len-4) (rowV (bF g) (len-4)))/\(ok=false->v=.slice none 0 0)/\Below w.heap.size w w':=by
 by_cases h4:len<4
 .have h42:(len:Int)<4:=Yo;clear hr;go_enter Tryz.func185,Tryz.ntmps185
  go_wp2_with fail
  go_ret2
  exact⟨_,false,rfl,⟨λh=>by (cases h),λh=>absurd h.1 Yo⟩,λh=>by (cases h),λ_=>rfl,Below.refl _ _⟩
 .obtain⟨m,rfl⟩:∃m,len=m+4:=⟨len-4,Yo⟩;have h42:¬((m:Int)+4<4):=Yo;obtain⟨b,o,rfl,hcs⟩:=hr Yo;have HR:=aB hr;have HG:=aB hg;have RT:=aB (show Rd w (some ⟨b,o+m,none⟩) 4 (bF (λi=>g (m+i))) from λ_=>⟨b,o+m,rfl,λi hi=>by rw[Nat.add_assoc];exact hcs (m+i) Yo⟩);have RM:=aB (show Rd w (some ⟨b,o,none⟩) m (bF g) from hr.less Yo);clear hr hg hcs h4;rw[show m+4-4=m by omega];go_enter Tryz.func185,Tryz.ntmps185
  go_wp2_with fail
  refine (IG (some ⟨b,o,none⟩) m cap g _ (aA HG) Yo (aA RM)).mono ?_;rintro e w3 ⟨rfl,k3⟩;obtain⟨T,eT⟩:∃T:Array Value,T=(rowV (bF (tlF (moreN 0 g m))) 4).toArray:=⟨_,rfl⟩;rw[<-eT];have st:=yR Tryz.prog w3.heap.size 211 #[.int .u8 0,.int .u8 0,.int .u8 0,.int .u8 0] T (w3.alloc (.cells #[.int .u8 0,.int .u8 0,.int .u8 0,.int .u8 0] 211)) (heap_alloc_new _ _) (by rw[eT];rfl) (by rw[eT,Array.all_eq_true_iff_forall_mem];intro u hu;exact nK _ 4 (λi _=>rfl) u (by simpa using hu));rw[World.setRow_alloc_new] at st;have sT:T.size=4:=by rw[eT];rfl
  have k4:=k3.trans ((bU w3 (.cells T 211)).mono k3.size);have s4:Rd (w3.alloc (.cells T 211)) (some ⟨w3.heap.size,0,none⟩) 4 (bF (tlF (moreN 0 g m))):=
   (Vh.of_row (t:=211) (bF (tlF (moreN 0 g m))) 4 Ym (by rw[heap_alloc_new,eT];rfl)).rd
  have K4:=aB k4;have S4:=aB s4;clear k3 k4 s4 eT;go_wp2_with fail
  obtain⟨q,eq⟩:∃q,q=w3.heap.size:=⟨_,rfl⟩;obtain⟨w4,e4⟩:∃w4,w4=w3.alloc (Obj.cells T 211):=⟨_,rfl⟩;rw[<-eq] at S4 ⊢;rw[<-e4] at S4 K4 ⊢;clear e4 eq st sT;refine wp_leaves (λa0 a' w'=>∃v:Bool,(v=true↔∀i,i<4->g (m+i)=tlF (moreN 0 g m) i)/\Below w.heap.size w w'/\a'=(((((((a0.put (some 17) (.slice (some ⟨b,o,none⟩) (m+4) cap)).put (some 18) (.slice (some ⟨b,o,none⟩) m cap)).put (some 19) (.int .i64 (m:Nat))).put (some 20) (.slice (some ⟨b,o+m,none⟩) 4 (cap-m))).put (some 21) (.slice (some ⟨q,0,none⟩) 4 4)).put (some 22) (.bool v)).put (some 23) (.bool (!v)))) ?reg ?rest
  case reg=>
   intro A eA;have b0:A.eval (.tmp 0)=.slice (some ⟨b,o,none⟩) (m+4) cap:=by rw[eA];rfl
   have b4:A.eval (.tmp 4)=.slice (some ⟨b,o,none⟩) m cap:=by rw[eA];rfl
   have b5:A.eval (.tmp 5)=.pointer (some ⟨q,0,none⟩):=by rw[eA];rfl
   have hs:31<=A.tmps.size:=by rw[eA];exact Xu rfl
   clear eA;refine oN (S:=λ_=>True) (.rd 0 (.rd 1 (.rd 2 (.rd 3 (.rd 4 (.go 5 (.rd 6 .fin))))))) [] Yl Yl ?_;refine bC (v:=(.slice (some ⟨b,o,none⟩) (m+4) cap)) rfl Yn Yw trivial (λwx _=>dL (.tmp 0) rfl b0 wx) ?_;show SeqI _ _ _ _ _ _ (Act.put _ (some 17) _) _
   refine bC (v:=(.slice (some ⟨b,o,none⟩) m cap)) rfl Yn Yw trivial (λwx _=>dL (.tmp 4) rfl (Ex b4) wx) ?_;show SeqI _ _ _ _ _ _ (Act.put _ (some 18) _) _
   refine bC (v:=(.int .i64 (m:Nat))) rfl Yn Yw trivial (λwx _=>M0 (.tmp 18) rfl Es wx) ?_;show SeqI _ _ _ _ _ _ (Act.put _ (some 19) _) _
   refine bC (v:=(.slice (some ⟨b,o+m,none⟩) 4 (cap-m))) rfl Yn Yw trivial (λwx _=>(aFh (.tmp 17) (.tmp 19) rfl (Ex (Ex Et)) Es Yo Yo wx).trans (by rw[Nat.add_sub_cancel_left])) ?_;show SeqI _ _ _ _ _ _ (Act.put _ (some 20) _) _
   refine bC (v:=(.slice (some ⟨q,0,none⟩) 4 4)) rfl Yn Yw trivial (λwx _=>aEt (.tmp 5) rfl (Ex (Ex (Ex (Ex b5)))) wx) ?_;show SeqI _ _ _ _ _ _ (Act.put _ (some 21) _) _
   refine qB rfl Yw (λK hK=>?_);refine dG _ 204 (.tmp 20) (.tmp 21) #[76,76] rfl (Ex Es) Es (YM _ _ _) (aEl (some ⟨b,o+m,none⟩) (some ⟨q,0,none⟩) 4 (cap-m) 4 (λi=>g (m+i)) (tlF (moreN 0 g m)) _ Yo (((aA RT).below (aA K4)).below (aU (Below.refl _ _))) ((aA S4).below (aU (Below.refl _ _)))) ?_;rintro e w5 ⟨v,rfl,hv,j5⟩;refine⟨_,rfl,hK _ _ (λ_=>trivial) ?_⟩;clear hK K;show SeqI _ _ _ _ _ _ (Act.put _ (some 22) _) _
   refine bC (v:=(.bool (!v))) rfl Yn Yw trivial (λwx _=>R9 (.tmp 22) _ rfl Es wx) ?_;show SeqI _ _ _ _ _ _ (Act.put _ (some 23) _) _
   refine oW ?_;exact⟨rfl,v,hv,(aU (aA K4)).trans (j5.mono (aA K4).size),rfl⟩
  case rest=>
   rintro a' w5 ⟨v,hv,k5,rfl⟩;have HV:=aB hv;have K5:=aB k5;clear hv k5
   cases v
   .go_frame
    go_wp2_with fail
    go_ret2
    exact⟨_,false,rfl,⟨λh=>by (cases h),λh=>by have h2:=(aA HV).2 (λi hi=>by have:=h.2 i hi;rw[show m+4-4=m by omega] at this;exact this);cases h2⟩,λh=>by (cases h),λ_=>rfl,aA K5⟩
   .go_frame
    go_wp2_with (at_make;refine wpList_makeC _ rfl _ _ rfl m m rfl rfl Yo Yo ?_)
    intro w6 z6 v6 j6;have V6:=aB v6;have K6:=aB ((aA K5).trans (j6.mono (aA K5).size));have J6:=aB j6;clear v6 z6 j6;go_wp2_with (show wpList _ _ _ ({ dst:=_,op:=Op.call { callee:=Callee.builtin Builtin.copy,args:=_,argTypes:=_ },type:=_,pos:=_,after:=_,guard:=_ }::_) _ _;refine wpList_copyB _ rfl _ _ rfl w5.heap.size m m _ rfl (aA V6) (some ⟨b,o,none⟩) cap (bF g) rfl ((aA RM).below (aA K6)) (bF_one g) ?_)
    intro w7 v7 k7;have z5:=(aA K5).size;have V7:=aB v7;have K7:=aB (aF (aA K6) k7 z5 (aA K6).size);clear v7 k7;go_wp2_with fail
    go_ret2
    exact⟨_,true,rfl,⟨λ_=>⟨Yo,λi hi=>by rw[show m+4-4=m by omega];exact (aA HV).1 (by trivial) i hi⟩,λ_=>rfl⟩,λ_=>(aA V7).owns z5,λh=>by (cases h),aA K7⟩
end Go.Proofs.YthimcecbgpamdaaGreat
