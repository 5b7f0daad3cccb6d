import Derived.Test.YthimcecbgpamdaaGreatDoorNear171
set_option maxHeartbeats 1000000
namespace Go.Proofs.YthimcecbgpamdaaGreatDoor
open Go.RowKit
def l3F(a b c:Int)(i:Nat):Int:=if i=0 then a else if i=1 then b else c
def Lf(f:Nat->Int)(i:Nat)(l:Int)(m:Nat):Prop:=m<=i/\2*ce f i l<=i+m/\∀v,v≠l->2*ce f i v+m<=i
theorem aHM(f:Nat->Int)(l:Int):Lf f 0 l 0:=⟨Xr _,Xr _,λ_ _=>Xr _⟩
variable{f:Nat->Int}{i:Nat}{l:Int}
theorem aKX(h:Lf f i l 0):Lf f (i+1) (f i) 1:=by
 obtain⟨_,h2,h3⟩:=h;have h4:∀v,2*ce f i v<=i:=λv=>by
  by_cases e:v=l
  .subst e;omega
  .have:=h3 v e;omega
 refine⟨Yo,?_,λv hv=>?_⟩
 .rw[rC,if_pos rfl];have:=h4 (f i);omega
 .rw[rC,if_neg (λe=>hv e.symm)];have:=h4 v;omega
theorem aHL{m:Nat}(e:f i=l)(h:Lf f i l m):Lf f (i+1) l (m+1):=by
 obtain⟨h1,h2,h3⟩:=h;refine⟨Yo,?_,λv hv=>?_⟩
 .rw[rC,if_pos e];omega
 .rw[rC,if_neg Yo];have:=h3 v hv;omega
theorem aHK{m:Nat}(e:f i≠l)(h:Lf f i l (m+1)):Lf f (i+1) l m:=by
 obtain⟨h1,h2,h3⟩:=h;refine⟨Yo,?_,λv hv=>?_⟩
 .rw[rC,if_neg e];omega
 .rw[rC];have:=h3 v hv;split<;>omega
theorem CB(ao:Option Addr)(n cap:Nat)(f:Nat->Int)(w:World)(hl:n<=17592186043904)(hr:Rd w ao n (iF f)):Calls Tryz.prog 270 #[.slice ao n cap] w λe w'=>∃l m,Lf f n l m/\e=.returned (.int .i64 l)/\w'=w:=by
 have HR:=aB hr;clear hr;go_enter Tryz.func270,Tryz.ntmps270
 go_wp2_with fail
 go_loopw [3,4,9] (λls ms is wr=>w=wr/\∃(i m:Nat) (l:Int),ls=.int .i64 l/\ms=.int .i64 m/\is=.int .i64 i/\i<=n/\Lf f i l m) (λ_ _ is _=>n-(intOf is).toNat)
 case atStart=>exact⟨rfl,0,0,0,rfl,rfl,rfl,Xz _,aHM f 0⟩
 case round=>
  obtain⟨rfl,i,m,l,rfl,rfl,rfl,hi,hlf⟩:=hrel;have LF:=aB hlf;have hm:m<=i:=hlf.1;clear hlf;by_cases hin:i<n
  .obtain⟨b,o,rfl,hc⟩:=aA HR Yo;have ci:w.cell? ⟨b,o+i,none⟩=some (.int .i64 (f i)):=hc i hin;obtain⟨v,ev⟩:∃v,f i=v:=⟨_,rfl⟩;rw[ev] at ci;have EV:=aB ev;clear ev hc;by_cases hm0:m=0
   .subst hm0;have NX:=aB (aKX (aA LF));rw[aA EV] at NX;rw[show ((0:Nat):Int)=0 from rfl];go_wp2_with fail
    go_roundw
    case rel=>exact⟨trivial,i+1,1,v,rfl,rfl,by go_num,Yo,aA NX⟩
    case measure=>simp[intOf]<;>omega
   .have tm:(((m:Nat):Int)==0)=false:=by simp;omega
    by_cases he:v=l
    .subst he;have tv:(v==v)=true:=by simp
     have NX:=aB (aHL (aA EV) (aA LF));go_wp2_with fail
     go_roundw
     case rel=>exact⟨trivial,i+1,m+1,v,rfl,by go_num,by go_num,Yo,aA NX⟩
     case measure=>simp[intOf]<;>omega
    .have tv:(v==l)=false:=by simp[he]
     obtain⟨k,rfl⟩:∃k,m=k+1:=⟨m-1,Yo⟩;have NX:=aB (aHK (show f i≠l by rw[aA EV];exact he) (aA LF));go_wp2_with fail
     go_roundw
     case rel=>exact⟨trivial,i+1,k,l,rfl,by go_num,by go_num,Yo,aA NX⟩
     case measure=>simp[intOf]<;>omega
  .have e9:i=n:=Yo;subst e9;go_wp2_with fail
   go_ret
   exact⟨l,m,aA LF,rfl,rfl⟩
theorem QX(ao:Option Addr)(n cap:Nat)(f:Nat->Int)(v:Int)(w:World)(hl:n<=17592186043904)(hr:Rd w ao n (iF f)):Calls Tryz.prog 271 #[.slice ao n cap,.int .i64 v] w λe w'=>e=.returned (.int .i64 (ce f n v:Nat))/\w'=w:=by
 have HR:=aB hr;clear hr;go_enter Tryz.func271,Tryz.ntmps271
 go_wp2_with fail
 go_loopw [5,10] (λns js wr=>w=wr/\∃j:Nat,js=.int .i64 j/\j<=n/\ns=.int .i64 (ce f j v:Nat)) (λ_ js _=>n-(intOf js).toNat)
 case atStart=>exact⟨rfl,0,rfl,Xz _,rfl⟩
 case round=>
  obtain⟨rfl,j,rfl,hj,rfl⟩:=hrel;have b2:ce f j v<=j:=LG _ _;by_cases hjn:j<n
  .obtain⟨b,o,rfl,hc⟩:=aA HR Yo;have cj:w.cell? ⟨b,o+j,none⟩=some (.int .i64 (f j)):=hc j hjn;have S2:=aB (rC f j v);clear hc;obtain⟨q,eq⟩:∃q,ce f j v=q:=⟨_,rfl⟩;obtain⟨u,eu⟩:∃u,f j=u:=⟨_,rfl⟩;rw[eq] at b2 S2 ⊢;rw[eu] at cj S2;clear eq eu;by_cases he:u=v
   .subst he;have t1:(u==u)=true:=by simp
    have T2:=aB (show ce f (j+1) u=q+1 by rw[aA S2,if_pos rfl]);go_wp2_with fail
    go_roundw
    case rel=>exact⟨trivial,j+1,by go_num,Yo,by rw[aA T2];go_num⟩
    case measure=>simp[intOf]<;>omega
   .have t1:(u==v)=false:=by simp[he]
    have T2:=aB (show ce f (j+1) v=q by rw[aA S2,if_neg he];rfl);go_wp2_with fail
    go_roundw
    case rel=>exact⟨trivial,j+1,by go_num,Yo,by rw[aA T2]⟩
    case measure=>simp[intOf]<;>omega
  .have e9:j=n:=Yo;subst e9;go_wp2_with fail
   go_ret
   exact⟨rfl,rfl⟩
theorem FJ(ao:Option Addr)(n cap:Nat)(f:Nat->Int)(other:Int)(w:World)(hl:n<=17592186043904)(hr:Rd w ao n (iF f)):Calls Tryz.prog 243 #[.slice ao n cap,.int .i64 other] w λe w'=>∃m,LC f n other m/\e=.returned (.int .i64 m)/\w'=w:=by
 have HR:=aB hr;clear hr;go_enter Tryz.func243,Tryz.ntmps243
 go_wp2_with fail
 refine (CB ao n cap f _ hl (aA HR)).mono ?_;rintro e w2 ⟨l,m,hlf,rfl,rfl⟩;have LF:=aB hlf;clear hlf;go_wp2_with fail
 refine (QX ao n cap f l _ hl (aA HR)).mono ?_;rintro e w3 ⟨rfl,rfl⟩;have b2:ce f n l<=n:=LG _ _;obtain⟨q,eq⟩:∃q,ce f n l=q:=⟨_,rfl⟩;have EQ:=aB eq;rw[eq] at b2 ⊢;clear eq;by_cases h2:n<2*q
 .have h2':(n:Int)<2*(q:Int):=Yo;go_wp2_with fail
  go_ret
  exact⟨l,Or.inl (by rw[aA EQ];exact h2),rfl,rfl⟩
 .have h2':¬(n:Int)<2*(q:Int):=Yo;go_wp2_with fail
  go_ret
  refine⟨other,Or.inr ⟨λv=>?_,rfl⟩,rfl,rfl⟩;by_cases e:v=l
  .rw[e,aA EQ];exact h2
  .have:=(aA LF).2.2 v e;omega
theorem KL(a b c:Int)(w:World):Calls Tryz.prog 218 #[.int .i64 a,.int .i64 b,.int .i64 c] w λe w'=>e=.returned (.int .i64 (mY a b c))/\Below w.heap.size w w':=by
 have V2:=Vh.new w 3 #[.int .i64 a,.int .i64 b,.int .i64 c] (iF (l3F a b c)) (by show 3<=maxLen;decide) (λi hi=>by
  have:i=0\/i=1\/i=2:=by simp at hi;omega
  rcases this with rfl|rfl|rfl<;>rfl)
 have R2:=aB V2.rd;have K2:=aB (bK w (.cells #[.int .i64 a,.int .i64 b,.int .i64 c] 3));clear V2;go_enter Tryz.func218,Tryz.ntmps218
 go_wp2_with fail
 refine (FJ (some ⟨w.heap.size,0,none⟩) 3 3 (l3F a b c) 0 _ Yo (aA R2)).mono ?_;rintro e w3 ⟨m,hm,rfl,rfl⟩;have em:m=mY a b c:=aHX hm (aHe (l3F a b c));subst em;clear hm;go_wp2_with fail
 go_ret
 exact⟨rfl,aA K2⟩
theorem FK:aNg 218:=λa b c w _ _ _=>KL a b c w
end Go.Proofs.YthimcecbgpamdaaGreatDoor
