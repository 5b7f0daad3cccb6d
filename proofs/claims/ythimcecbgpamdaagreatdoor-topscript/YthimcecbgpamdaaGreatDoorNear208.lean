import Derived.Test.YthimcecbgpamdaaGreatDoorNear205
import Derived.Test.YthimcecbgpamdaaGreatDoorNear101
set_option maxHeartbeats 1000000
namespace Go.Proofs.YthimcecbgpamdaaGreatDoor
open Go.RowKit
def ClE(b o b2 o2:Nat)(x y:Nat)(u:World):Prop:=u.cell? ⟨b,o,none⟩=some (bV x)/\u.cell? ⟨b2,o2,none⟩=some (bV y)
theorem aAb(ao bo:Option Addr)(n cap cap2:Nat)(g f:Nat->Nat)(w:World)(hn:n<=9223372036854775807)(ha:Rd w ao n (bF g))(hb:Rd w bo n (bF f)):Calls Tryz.prog 298 #[.slice ao n cap,.slice bo n cap2] w λe w'=>∃v,e=.returned (.bool v)/\(v=true↔∀i,i<n->g i=f i)/\Below w.heap.size w w':=by
 have HA:=aB ha;have HB:=aB hb;clear ha hb;go_enter Tryz.func298,Tryz.ntmps298
 go_wp2_with fail
 go_loopw [13] (λis wr=>∃i:Nat,is=.int .i64 i/\i<=n/\(∀j,j<i->g j=f j)/\Below w.heap.size w wr) (λis _=>n-(intOf is).toNat)
 case atStart=>exact⟨0,rfl,Xz _,λj hj=>absurd hj Yo,Below.refl _ _⟩
 case round=>
  obtain⟨i,rfl,hi,he,hk⟩:=hrel;have HE:=aB he;have K1:=aB hk;clear he hk;by_cases hin:i<n
  .obtain⟨b,o,rfl,ca⟩:=aA HA Yo;obtain⟨b2,o2,rfl,cb⟩:=aA HB Yo;have hS:=aB (show ClE b (o+i) b2 (o2+i) (g i) (f i) _ from ⟨aU (ca i hin) (aA K1),aU (cb i hin) (aA K1)⟩);clear ca cb;go_wp2_with fail
   rename World=>wr
   have hS2:ClE b (o+i) b2 (o2+i) (g i) (f i) wr.drew:=aA hS;by_cases hq:g i=f i
   .have _:=True.intro;refine wp_leaves (λa0 a' w'=>w'=wr.drew/\a'=(((((((((a0.put (some 16) (.slice (some ⟨b,o,none⟩) n cap)).put (some 17) (.int .i64 (i:Nat))).put (some 18) (.pointer (some ⟨b,o+i,none⟩))).put (some 19) (bV (g i))).put (some 20) (.slice (some ⟨b2,o2,none⟩) n cap2)).put (some 21) (.int .i64 (i:Nat))).put (some 22) (.pointer (some ⟨b2,o2+i,none⟩))).put (some 23) (bV (f i))).put (some 24) (.bool false))) ?reg ?rest
    case reg=>
     intro A eA;have b0:A.eval (.tmp 0)=.slice (some ⟨b,o,none⟩) n cap:=by rw[eA];rfl
     have b1:A.eval (.tmp 1)=.slice (some ⟨b2,o2,none⟩) n cap2:=by rw[eA];rfl
     have b5:A.eval (.tmp 5)=.int .i64 (i:Nat):=by rw[eA];rfl
     have hs:26<=A.tmps.size:=by rw[eA];exact Xu rfl
     clear eA;refine vV (S:=ClE b (o+i) b2 (o2+i) (g i) (f i)) (.rd 0 (.rd 1 (.rd 2 (.rd 3 (.rd 4 (.rd 5 (.rd 6 (.rd 7 (.rd 8 .fin))))))))) [] Yl Yl ?_;refine bP (v:=(.slice (some ⟨b,o,none⟩) n cap)) rfl Yn Yw hS2 (λwx _=>eG (.tmp 0) rfl b0 wx) ?_;show SeqI _ _ _ _ _ _ (Act.put _ (some 16) _) _
     refine bP (v:=(.int .i64 (i:Nat))) rfl Yn Yw hS2 (λwx _=>eG (.tmp 5) rfl (Ex b5) wx) ?_;show SeqI _ _ _ _ _ _ (Act.put _ (some 17) _) _
     refine bP (v:=(.pointer (some ⟨b,o+i,none⟩))) rfl Yn Yw hS2 (λwx _=>oG (.tmp 16) (.tmp 17) rfl (Ex Et) Es hin wx) ?_;show SeqI _ _ _ _ _ _ (Act.put _ (some 18) _) _
     refine bP (v:=(bV (g i))) rfl Yn Yw hS2 (λwx hx=>qD (.tmp 18) rfl Es hx.1) ?_;show SeqI _ _ _ _ _ _ (Act.put _ (some 19) _) _
     refine bP (v:=(.slice (some ⟨b2,o2,none⟩) n cap2)) rfl Yn Yw hS2 (λwx _=>eG (.tmp 1) rfl (Ex (Ex (Ex (Ex b1)))) wx) ?_;show SeqI _ _ _ _ _ _ (Act.put _ (some 20) _) _
     refine bP (v:=(.int .i64 (i:Nat))) rfl Yn Yw hS2 (λwx _=>eG (.tmp 5) rfl (Ex (Ex (Ex (Ex (Ex b5))))) wx) ?_;show SeqI _ _ _ _ _ _ (Act.put _ (some 21) _) _
     refine bP (v:=(.pointer (some ⟨b2,o2+i,none⟩))) rfl Yn Yw hS2 (λwx _=>oG (.tmp 20) (.tmp 21) rfl (Ex Es) Es hin wx) ?_;show SeqI _ _ _ _ _ _ (Act.put _ (some 22) _) _
     refine bP (v:=(bV (f i))) rfl Yn Yw hS2 (λwx hx=>qD (.tmp 22) rfl Es hx.2) ?_;show SeqI _ _ _ _ _ _ (Act.put _ (some 23) _) _
     refine bP (v:=(.bool false)) rfl Yn Yw hS2 (λwx _=>aFg (.tmp 19) (.tmp 23) rfl (Ex (Ex (Ex (Ex Es)))) Es hq wx) ?_;show SeqI _ _ _ _ _ _ (Act.put _ (some 24) _) _
     refine wF ?_;exact⟨rfl,rfl,rfl⟩
    case rest=>
     rintro a' w3 ⟨rfl,rfl⟩;have K2:=aB (aY (aA K1));have HQ:=aB hq;clear hS hS2 hq
     go_frame
     go_wp2_with fail
     go_roundw
     case rel=>exact⟨i+1,by go_num,Yo,λj hj=>by
      rcases Nat.lt_or_ge j i with h|h
      .exact aA HE j h
      .obtain rfl:j=i:=Yo;exact aA HQ,aA K2⟩
     case measure=>simp[intOf]<;>omega
   .have _:=True.intro;refine wp_leaves (λa0 a' w'=>w'=wr.drew/\a'=(((((((((a0.put (some 16) (.slice (some ⟨b,o,none⟩) n cap)).put (some 17) (.int .i64 (i:Nat))).put (some 18) (.pointer (some ⟨b,o+i,none⟩))).put (some 19) (bV (g i))).put (some 20) (.slice (some ⟨b2,o2,none⟩) n cap2)).put (some 21) (.int .i64 (i:Nat))).put (some 22) (.pointer (some ⟨b2,o2+i,none⟩))).put (some 23) (bV (f i))).put (some 24) (.bool true))) ?reg ?rest
    case reg=>
     intro A eA;have b0:A.eval (.tmp 0)=.slice (some ⟨b,o,none⟩) n cap:=by rw[eA];rfl
     have b1:A.eval (.tmp 1)=.slice (some ⟨b2,o2,none⟩) n cap2:=by rw[eA];rfl
     have b5:A.eval (.tmp 5)=.int .i64 (i:Nat):=by rw[eA];rfl
     have hs:26<=A.tmps.size:=by rw[eA];exact Xu rfl
     clear eA;refine vV (S:=ClE b (o+i) b2 (o2+i) (g i) (f i)) (.rd 0 (.rd 1 (.rd 2 (.rd 3 (.rd 4 (.rd 5 (.rd 6 (.rd 7 (.rd 8 .fin))))))))) [] Yl Yl ?_;refine bP (v:=(.slice (some ⟨b,o,none⟩) n cap)) rfl Yn Yw hS2 (λwx _=>eG (.tmp 0) rfl b0 wx) ?_;show SeqI _ _ _ _ _ _ (Act.put _ (some 16) _) _
     refine bP (v:=(.int .i64 (i:Nat))) rfl Yn Yw hS2 (λwx _=>eG (.tmp 5) rfl (Ex b5) wx) ?_;show SeqI _ _ _ _ _ _ (Act.put _ (some 17) _) _
     refine bP (v:=(.pointer (some ⟨b,o+i,none⟩))) rfl Yn Yw hS2 (λwx _=>oG (.tmp 16) (.tmp 17) rfl (Ex Et) Es hin wx) ?_;show SeqI _ _ _ _ _ _ (Act.put _ (some 18) _) _
     refine bP (v:=(bV (g i))) rfl Yn Yw hS2 (λwx hx=>qD (.tmp 18) rfl Es hx.1) ?_;show SeqI _ _ _ _ _ _ (Act.put _ (some 19) _) _
     refine bP (v:=(.slice (some ⟨b2,o2,none⟩) n cap2)) rfl Yn Yw hS2 (λwx _=>eG (.tmp 1) rfl (Ex (Ex (Ex (Ex b1)))) wx) ?_;show SeqI _ _ _ _ _ _ (Act.put _ (some 20) _) _
     refine bP (v:=(.int .i64 (i:Nat))) rfl Yn Yw hS2 (λwx _=>eG (.tmp 5) rfl (Ex (Ex (Ex (Ex (Ex b5))))) wx) ?_;show SeqI _ _ _ _ _ _ (Act.put _ (some 21) _) _
     refine bP (v:=(.pointer (some ⟨b2,o2+i,none⟩))) rfl Yn Yw hS2 (λwx _=>oG (.tmp 20) (.tmp 21) rfl (Ex Es) Es hin wx) ?_;show SeqI _ _ _ _ _ _ (Act.put _ (some 22) _) _
     refine bP (v:=(bV (f i))) rfl Yn Yw hS2 (λwx hx=>qD (.tmp 22) rfl Es hx.2) ?_;show SeqI _ _ _ _ _ _ (Act.put _ (some 23) _) _
     refine bP (v:=(.bool true)) rfl Yn Yw hS2 (λwx _=>aFh (.tmp 19) (.tmp 23) rfl (Ex (Ex (Ex (Ex Es)))) Es hq wx) ?_;show SeqI _ _ _ _ _ _ (Act.put _ (some 24) _) _
     refine wF ?_;exact⟨rfl,rfl,rfl⟩
    case rest=>
     rintro a' w3 ⟨rfl,rfl⟩;have K2:=aB (aY (aA K1));have HQ:=aB hq;clear hS hS2 hq
     go_frame
     go_wp2_with fail
     go_ret
     exact⟨false,rfl,⟨λh=>by (cases h),λh=>absurd (h i hin) (aA HQ)⟩,aA K2⟩
  .have e6:i=n:=Yo;subst e6;go_wp2_with fail
   go_ret
   exact⟨true,rfl,⟨λ_=>aA HE,λ_=>rfl⟩,aA K1⟩
def xH(g:Nat->Nat)(n:Nat):Prop:=4<=n/\∀i,i<4->g (n-4+i)=tlF (moreN 0 g (n-4)) i
theorem BC(ao:Option Addr)(len cap:Nat)(g:Nat->Nat)(w:World)(hg:∀i,g i<256)(hl:len<=140737488355328)(hc:len<=cap)(hr:Rd w ao len (bF g)):Calls Tryz.prog 282 #[.slice ao len cap] w λe w'=>∃v ok,e=.returned (.tuple #[v,.bool ok])/\(ok=true↔xH g len)/\(ok=true->w'.ownsRow w.heap.size 5 1 v (len-4) (rowV (bF g) (len-4)))/\(ok=false->v=.slice none 0 0)/\Below w.heap.size w w':=by
 by_cases h4:len<4
 .have h42:(len:Int)<4:=Yo;clear hr;go_enter Tryz.func282,Tryz.ntmps282
  go_wp2_with fail
  go_ret2
  exact⟨_,false,rfl,⟨λh=>by (cases h),λh=>absurd h.1 Yo⟩,λh=>by (cases h),λ_=>rfl,Below.refl _ _⟩
 .obtain⟨m,rfl⟩:∃m,len=m+4:=⟨len-4,Yo⟩;have h42:¬((m:Int)+4<4):=Yo;obtain⟨b,o,rfl,hcs⟩:=hr Yo;have HR:=aB hr;have HG:=aB hg;have RT:=aB (show Rd w (some ⟨b,o+m,none⟩) 4 (bF (λi=>g (m+i))) from λ_=>⟨b,o+m,rfl,λi hi=>by rw[Nat.add_assoc];exact hcs (m+i) Yo⟩);have RM:=aB (show Rd w (some ⟨b,o,none⟩) m (bF g) from hr.less Yo);clear hr hg hcs h4;rw[show m+4-4=m by omega];go_enter Tryz.func282,Tryz.ntmps282
  go_wp2_with fail
  refine (EO (some ⟨b,o,none⟩) m cap g _ (aA HG) Yo (aA RM)).mono ?_;rintro e w3 ⟨rfl,k3⟩;obtain⟨T,eT⟩:∃T:Array Value,T=(rowV (bF (tlF (moreN 0 g m))) 4).toArray:=⟨_,rfl⟩;rw[<-eT];have st:=xO Tryz.prog w3.heap.size 243 #[.int .u8 0,.int .u8 0,.int .u8 0,.int .u8 0] T (w3.alloc (.cells #[.int .u8 0,.int .u8 0,.int .u8 0,.int .u8 0] 243)) (heap_alloc_new _ _) (by rw[eT];rfl) (by rw[eT,Array.all_eq_true_iff_forall_mem];intro u hu;exact mV _ 4 (λi _=>rfl) u (by simpa using hu));rw[World.setRow_alloc_new] at st;have sT:T.size=4:=by rw[eT];rfl
  have k4:=k3.trans ((bK w3 (.cells T 243)).mono k3.size);have s4:Rd (w3.alloc (.cells T 243)) (some ⟨w3.heap.size,0,none⟩) 4 (bF (tlF (moreN 0 g m))):=
   (Vh.of_row (t:=243) (bF (tlF (moreN 0 g m))) 4 Ym (by rw[heap_alloc_new,eT];rfl)).rd
  have K4:=aB k4;have S4:=aB s4;clear k3 k4 s4 eT;go_wp2_with fail
  obtain⟨q,eq⟩:∃q,q=w3.heap.size:=⟨_,rfl⟩;obtain⟨w4,e4⟩:∃w4,w4=w3.alloc (Obj.cells T 243):=⟨_,rfl⟩;rw[<-eq] at S4 ⊢;rw[<-e4] at S4 K4 ⊢;clear e4 eq st sT;refine wp_leaves (λa0 a' w'=>∃v:Bool,(v=true↔∀i,i<4->g (m+i)=tlF (moreN 0 g m) i)/\Below w.heap.size w w'/\a'=(((((((a0.put (some 17) (.slice (some ⟨b,o,none⟩) (m+4) cap)).put (some 18) (.slice (some ⟨b,o,none⟩) m cap)).put (some 19) (.int .i64 (m:Nat))).put (some 20) (.slice (some ⟨b,o+m,none⟩) 4 (cap-m))).put (some 21) (.slice (some ⟨q,0,none⟩) 4 4)).put (some 22) (.bool v)).put (some 23) (.bool (!v)))) ?reg ?rest
  case reg=>
   intro A eA;have b0:A.eval (.tmp 0)=.slice (some ⟨b,o,none⟩) (m+4) cap:=by rw[eA];rfl
   have b4:A.eval (.tmp 4)=.slice (some ⟨b,o,none⟩) m cap:=by rw[eA];rfl
   have b5:A.eval (.tmp 5)=.pointer (some ⟨q,0,none⟩):=by rw[eA];rfl
   have hs:31<=A.tmps.size:=by rw[eA];exact Xu rfl
   clear eA;refine vV (S:=λ_=>True) (.rd 0 (.rd 1 (.rd 2 (.rd 3 (.rd 4 (.go 5 (.rd 6 .fin))))))) [] Yl Yl ?_;refine bP (v:=(.slice (some ⟨b,o,none⟩) (m+4) cap)) rfl Yn Yw trivial (λwx _=>eG (.tmp 0) rfl b0 wx) ?_;show SeqI _ _ _ _ _ _ (Act.put _ (some 17) _) _
   refine bP (v:=(.slice (some ⟨b,o,none⟩) m cap)) rfl Yn Yw trivial (λwx _=>eG (.tmp 4) rfl (Ex b4) wx) ?_;show SeqI _ _ _ _ _ _ (Act.put _ (some 18) _) _
   refine bP (v:=(.int .i64 (m:Nat))) rfl Yn Yw trivial (λwx _=>aEV (.tmp 18) rfl Es wx) ?_;show SeqI _ _ _ _ _ _ (Act.put _ (some 19) _) _
   refine bP (v:=(.slice (some ⟨b,o+m,none⟩) 4 (cap-m))) rfl Yn Yw trivial (λwx _=>(aFb (.tmp 17) (.tmp 19) rfl (Ex (Ex Et)) Es Yo Yo wx).trans (by rw[Nat.add_sub_cancel_left])) ?_;show SeqI _ _ _ _ _ _ (Act.put _ (some 20) _) _
   refine bP (v:=(.slice (some ⟨q,0,none⟩) 4 4)) rfl Yn Yw trivial (λwx _=>aBF (.tmp 5) rfl (Ex (Ex (Ex (Ex b5)))) wx) ?_;show SeqI _ _ _ _ _ _ (Act.put _ (some 21) _) _
   refine uN rfl Yw (λK hK=>?_);refine dL _ 298 (.tmp 20) (.tmp 21) #[65,65] rfl (Ex Es) Es (RN _ _ _) (aAb (some ⟨b,o+m,none⟩) (some ⟨q,0,none⟩) 4 (cap-m) 4 (λi=>g (m+i)) (tlF (moreN 0 g m)) _ Yo (((aA RT).below (aA K4)).below (aY (Below.refl _ _))) ((aA S4).below (aY (Below.refl _ _)))) ?_;rintro e w5 ⟨v,rfl,hv,j5⟩;refine⟨_,rfl,hK _ _ (λ_=>trivial) ?_⟩;clear hK K;show SeqI _ _ _ _ _ _ (Act.put _ (some 22) _) _
   refine bP (v:=(.bool (!v))) rfl Yn Yw trivial (λwx _=>zZ (.tmp 22) _ rfl Es wx) ?_;show SeqI _ _ _ _ _ _ (Act.put _ (some 23) _) _
   refine wF ?_;exact⟨rfl,v,hv,(aY (aA K4)).trans (j5.mono (aA K4).size),rfl⟩
  case rest=>
   rintro a' w5 ⟨v,hv,k5,rfl⟩;have HV:=aB hv;have K5:=aB k5;clear hv k5
   cases v
   .go_frame
    go_wp2_with fail
    go_ret2
    exact⟨_,false,rfl,⟨λh=>by (cases h),λh=>by have h2:=(aA HV).2 (λi hi=>by have:=h.2 i hi;rw[show m+4-4=m by omega] at this;exact this);cases h2⟩,λh=>by (cases h),λ_=>rfl,aA K5⟩
   .go_frame
    go_wp2_with (at_make;refine wpList_makeC _ rfl _ _ rfl m m rfl rfl Yo Yo ?_)
    intro w6 z6 v6 j6;have V6:=aB v6;have K6:=aB ((aA K5).trans (j6.mono (aA K5).size));have J6:=aB j6;clear v6 z6 j6;go_wp2_with (show wpList _ _ _ ({ dst:=_,op:=Op.call { callee:=Callee.builtin Builtin.copy,args:=_,argTypes:=_ },type:=_,pos:=_,after:=_,guard:=_ }::_) _ _;refine wpList_copyB _ rfl _ _ rfl w5.heap.size m m _ rfl (aA V6) (some ⟨b,o,none⟩) cap (bF g) rfl ((aA RM).below (aA K6)) (bF_one g) ?_)
    intro w7 v7 k7;have z5:=(aA K5).size;have V7:=aB v7;have K7:=aB (aF (aA K6) k7 z5 (aA K6).size);clear v7 k7;go_wp2_with fail
    go_ret2
    exact⟨_,true,rfl,⟨λ_=>⟨Yo,λi hi=>by rw[show m+4-4=m by omega];exact (aA HV).1 (by trivial) i hi⟩,λ_=>rfl⟩,λ_=>(aA V7).owns z5,λh=>by (cases h),aA K7⟩
variable{g:Nat->Nat}{n:Nat}
theorem SQ{s:Int}{h:Nat->Nat}(e:∀i,i<n->g i=h i):moreN s g n=moreN s h n:=by unfold moreN;rw[aCU _ n e]
def enS(K F R:Int)(n:Nat)(f:Nat->Int):Nat->Nat:=EG (enF K F R n f) (8+8*n)
def wX(K F R:Int)(n:Nat):Nat:=if wrongM K F R n=0 then 12+8*n else 0
theorem ZZ(K F R:Int)(n:Nat)(f:Nat->Int)(i:Nat):enS K F R n f i<256:=aLL (ZY K F R n f) _ _
def aNh(fn:Nat):Prop:=∀(K F R:Int) (ao:Option Addr) (n cap:Nat) (f:Nat->Int) (w:World),R64 K->R64 F->R64 R->(∀i,R64 (f i))->n*8<=140737488351232->n<=cap->Sr w ao n cap (iF f)->
 Calls Tryz.prog fn #[nC K F R (.slice ao n cap)] w λe w'=>∃v,e=.returned (.tuple #[v,.int .i64 (wrongM K F R n)])/\w'.ownsRow w.heap.size 5 1 v (wX K F R n) (rowV (bF (enS K F R n f)) (wX K F R n))/\Below w.heap.size w w'
def F8(g:Nat->Nat)(len:Nat)(e:Int):Prop:=
 (220<len/\e=1)\/(len<=220/\(len<12\/g 0≠87)/\e=2)\/(len<=220/\12<=len/\g 0=87/\
  ((¬xH g len/\e=5)\/(xH g len/\((24<g 7/\e=6)\/(g 7<=24/\((len≠12+8*g 7/\e=2)\/(len=12+8*g 7/\e=wrongM (g 1:Nat) (g 2:Nat) (dR g:Nat) (g 7))))))))
variable{e:Int}{len:Nat}
theorem aHg{e':Int}(h:F8 g len e)(h':F8 g len e'):e=e':=by grind [F8]
theorem IX(h:F8 g len 0):12<=len/\len<=220/\g 0=87/\xH g len/\g 7<=24/\len=12+8*g 7/\wrongM (g 1:Nat) (g 2:Nat) (dR g:Nat) (g 7)=0:=by grind [F8]
def dN(e:Int)(x:Nat):Nat:=if e=0 then x else 0
def aNf(fn:Nat):Prop:=∀(ao:Option Addr) (len cap:Nat) (g:Nat->Nat) (w:World),(∀i,g i<256)->len<=140737488351232->len<=cap->Sr w ao len cap (bF g)->
 Calls Tryz.prog fn #[.slice ao len cap] w λe w'=>∃(E:Int) (v:Value),F8 g len E/\e=.returned (.tuple #[nC (dN E (g 1):Nat) (dN E (g 2):Nat) (dN E (dR g):Nat) v,.int .i64 E])/\w'.ownsRow w.heap.size 3 1 v (dN E (g 7)) (rowV (iF (dV g)) (dN E (g 7)))/\Below w.heap.size w w'
variable{f:Nat->Int}
theorem aKr{K F R:Int}(h:wrongM K F R n=0):F8 (enS K F R n f) (12+8*n) 0:=by
 obtain⟨h1,h2,h3,h4,h5,h6,h7⟩:=qY h;have lo:∀i,i<8+8*n->enS K F R n f i=enF K F R n f i:=λi hi=>by unfold enS EG;rw[if_pos hi]
 have e0:enS K F R n f 0=87:=by rw[lo 0 Yo];rfl
 have e1:(enS K F R n f 1:Int)=K:=by rw[lo 1 Yo];show ((K%256).toNat:Int)=K;omega
 have e2:(enS K F R n f 2:Int)=F:=by rw[lo 2 Yo];show ((F%256).toNat:Int)=F;omega
 have e7:enS K F R n f 7=n:=by rw[lo 7 Yo];show n%256=n;omega
 have eR:(dR (enS K F R n f):Int)=R:=YY h5 h6 lo;refine Or.inr (Or.inr ⟨Yo,Yo,e0,Or.inr ⟨?_,Or.inr ⟨Yo,Or.inr ⟨Yo,?_⟩⟩⟩⟩)
 .refine⟨Yo,λi hi=>?_⟩;have e:12+8*n-4=8+8*n:=Yo;rw[e];have hm:moreN 0 (enS K F R n f) (8+8*n)=moreN 0 (enF K F R n f) (8+8*n):=SQ lo;rw[hm];unfold enS EG;rw[if_neg Yo,Nat.add_sub_cancel_left]
 .rw[e1,e2,e7,eR,h]
theorem aDl{K F R:Int}(h:wrongM K F R n=0)(hf:∀i,R64 (f i)):(enS K F R n f 1:Int)=K/\(enS K F R n f 2:Int)=F/\(dR (enS K F R n f):Int)=R/\enS K F R n f 7=n/\∀j,j<n->dV (enS K F R n f) j=f j:=by
 obtain⟨h1,h2,h3,h4,h5,h6,h7⟩:=qY h;have lo:∀i,i<8+8*n->enS K F R n f i=enF K F R n f i:=λi hi=>by unfold enS EG;rw[if_pos hi]
 refine⟨?_,?_,YY h5 h6 lo,?_,λj hj=>aJX hf lo hj⟩
 .rw[lo 1 Yo];show ((K%256).toNat:Int)=K;omega
 .rw[lo 2 Yo];show ((F%256).toNat:Int)=F;omega
 .rw[lo 7 Yo];show n%256=n;omega
structure Ly where
 ph:Int
 wo:Int
 n:Nat
 g:Nat->Nat
structure Ip where
 rd:Nat->Nat->Int
 bad:Int
 ly:List Ly
structure Cl where
 fr:Int
 nd:Nat->Nd
def YO:Cl:=⟨0,λ_=>dW⟩
def begC(t:Tn):Cl:=⟨0,λi=>jH i t⟩
instance (g:Nat->Nat) (n:Nat):Decidable (xH g n):=by unfold xH;infer_instance
def ZM(g:Nat->Nat)(n:Nat):Bool:=decide (12<=n)&&decide (n<=220)&&decide (g 0=87)&&decide (xH g n)&&decide (g 7<=24)&&decide (n=12+8*g 7)&&decide (wrongM (g 1:Nat) (g 2:Nat) (dR g:Nat) (g 7)=0)
theorem U4:ZM g n=true↔F8 g n 0:=by
 unfold ZM;simp only[Bool.and_eq_true,decide_eq_true_eq];constructor
 .rintro⟨⟨⟨⟨⟨⟨h1,h2⟩,h3⟩,h4⟩,h5⟩,h6⟩,h7⟩;exact Or.inr (Or.inr ⟨h2,h1,h3,Or.inr ⟨h4,Or.inr ⟨h5,Or.inr ⟨h6,h7.symm⟩⟩⟩⟩)
 .intro h;obtain⟨h1,h2,h3,h4,h5,h6,h7⟩:=IX h;exact⟨⟨⟨⟨⟨⟨h1,h2⟩,h3⟩,h4⟩,h5⟩,h6⟩,h7⟩
theorem aKo(h:F8 g n e)(he:e≠0):ZM g n=false:=by
 cases c:ZM g n with
 |false=>rfl
 |true=>exact absurd (aHg h (U4.1 c)) he
def sQ(n:Nat)(g:Nat->Nat):List Ms:=if ZM g n=true then [⟨(g 1:Nat),(g 2:Nat),(dR g:Nat),(List.range (g 7)).map (dV g)⟩] else []
def uD(bad wo ph:Int)(l:List Ly):List Ms:=l.flatMap λy=>if y.ph=ph/\y.wo=wo then (sQ y.n y.g).filter λm=>decide (m.F=bad) else []
def yY(m:Ms):List Ms:=if wrongM m.K m.F m.R m.L.length=0 then [m] else []
def oJ(x:Ip)(told:Nat->Ms)(wo ph:Nat):Nat->List Ms
 |0=>[]
 |k+1=>oJ x told wo ph k++(if k=wo then [] else if (k:Int)=x.bad then uD x.bad wo ph x.ly else yY (told k))
def phN(k:Nat)(n:Nd)(fr:Int)(rd:Nat->Int)(l:List Ms):Nd:=if k=0 then pO n fr rd else if k=1 then relN n l else if k=2 then uZ n l else if k=3 then pasN n l else judN n l
def phM(k:Nat)(n:Nd)(fr:Int)(rd:Nat->Int)(l:List Ms):Ms:=if k=0 then oN n fr rd else if k=1 then vW n l else if k=2 then uY n l else if k=3 then vR n l else vO n l
structure Wk where
 nd:Nat->Nd
 bx:Nat->List Ms
def KG(x:Ip)(fr:Int)(s:Wk)(k i:Nat):Nd:=if (i:Int)=x.bad then s.nd i else phN k (s.nd i) fr (x.rd i) (s.bx i)
def AC(x:Ip)(fr:Int)(s:Wk)(k i:Nat):Ms:=if (i:Int)=x.bad then jG else phM k (s.nd i) fr (x.rd i) (s.bx i)
def wkS(x:Ip)(fr:Int)(s:Wk)(k:Nat):Wk:=⟨KG x fr s k,λi=>oJ x (AC x fr s k) i k 4⟩
def nD(x:Ip)(c:Cl):Nat->Wk
 |0=>⟨c.nd,λ_=>[]⟩
 |k+1=>wkS x c.fr (nD x c k) k
def gG(x:Ip)(c:Cl)(i:Nat):Nd:=if (i:Int)=x.bad then c.nd i else gF ((nD x c 5).nd i) ((nD x c 5).bx i)
def P6(bad:Int)(k:Nat):List Nat:=(List.range k).filter λi=>decide ((i:Int)≠bad)
def bU(x:Ip)(c:Cl):Int:=if x.bad< -1\/4<=x.bad\/c.fr<0\/1073741823<c.fr then 3 else if 400<x.ly.length then 6 else if (c.nd 0).id=0/\(c.nd 1).id=1/\(c.nd 2).id=2/\(c.nd 3).id=3 then 0 else 7
def frC(x:Ip)(c:Cl):Cl:=if bU x c=0 then ⟨c.fr+1,gG x c⟩ else YO
def frR(x:Ip)(c:Cl):List Nd:=if bU x c=0 then (P6 x.bad 4).map (gG x c) else []
structure Rn where
 c:Cl
 r:List Nd
 e:Int
def rnS(s:Rn)(x:Ip):Rn:=if s.e=0 then (if bU x s.c=0 then ⟨frC x s.c,s.r++frR x s.c,0⟩ else ⟨YO,[],bU x s.c⟩) else s
theorem O0{x:Ip}{c:Cl}(h:bU x c=0):(-1<=x.bad/\x.bad<4)/\(0<=c.fr/\c.fr<=1073741823)/\x.ly.length<=400/\∀i,i<4->(c.nd i).id=(i:Nat):=by
 unfold bU at h;split at h
 .omega
 .split at h
  .omega
  .split at h
   .rename_i h1 h2 h3;refine⟨Yo,Yo,Yo,λi hi=>?_⟩;have:i=0\/i=1\/i=2\/i=3:=Yo;rcases this with rfl|rfl|rfl|rfl
    .exact h3.1
    .exact h3.2.1
    .exact h3.2.2.1
    .exact h3.2.2.2
   .omega
theorem mD{i:Nat}(hi:i<4):jV (i:Nat)=false:=by
 unfold jV;rw[Xf Yo,Xf Yo];rfl
end Go.Proofs.YthimcecbgpamdaaGreatDoor
