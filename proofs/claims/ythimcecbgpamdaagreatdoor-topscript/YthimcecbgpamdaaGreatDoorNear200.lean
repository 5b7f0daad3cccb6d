import Derived.Test.YthimcecbgpamdaaGreatDoorNear197
import Derived.WalkSmall
import Derived.Test.YthimcecbgpamdaaGreatDoorNear166
namespace Go.Proofs.YthimcecbgpamdaaGreatDoor
open Go.RowKit Go.Lib
def wM(l:List UInt8):Bool:=lU l&&(l==[48]||l.head? !=some 48)
def DR(l:List UInt8):Bool:=Lib.hasPrefix l [45]
def oF(l:List UInt8):List UInt8×List UInt8×Bool:=Lib.cut (Lib.trimPrefix l [45]) [46]
def qK(l:List UInt8):Bool:=wM (oF l).1&&(!(oF l).2.2||lU (oF l).2.1)
def iN(l:List UInt8):Int:=iI (DR l) ((wholeV (oF l).1*4294967296+fracV (oF l).2.1 (DR l):Nat):Int)
def iO(l:List UInt8):Int:=if 60<l.length then 0 else if qK l=false then 0 else if fP (iN l) then 0 else dO (iN l)
def jT(l:List UInt8):Int:=if 60<l.length then 1 else if qK l=false then 2 else if fP (iN l) then 3 else 0
theorem aDv(l:List UInt8)(neg:Bool)(h:l.all mZ=true):fracV l neg<=4294967296:=by
 have hT:0<10^l.length:=Nat.pow_pos Yc;have hF:kN l<10^l.length:=by rw[MQ];exact U9 (AJ h) _
 unfold fracV;obtain⟨T,eT⟩:∃T,10^l.length=T:=⟨_,rfl⟩;rw[eT] at hT hF ⊢;have h1:kN l*2^32/T<2^32:=by
  rw[Nat.div_lt_iff_lt_mul hT,Nat.mul_comm];exact Nat.mul_lt_mul_of_pos_left hF Yc
 have h2:kN l*2^33/T<2*(kN l*2^32/T)+2:=by
  rw[Nat.div_lt_iff_lt_mul hT];have h3:=Nat.div_add_mod (kN l*2^32) T;have h4:=Nat.mod_lt (kN l*2^32) hT;have e:kN l*2^33=2*(kN l*2^32):=by rw[show (2:Nat)^33=2^32*2 by decide, <-Nat.mul_assoc,Nat.mul_comm]
  rw[e,Nat.add_mul,Nat.mul_assoc,Nat.mul_comm (kN l*2^32/T) T];omega
 have e32:(2:Nat)^32=4294967296:=by decide
 split<;>omega
theorem aBh(l:List UInt8)(w:World)(hl:60<l.length):Calls Tryz.prog 140 #[.string ⟨l.toArray⟩] w λe w'=>e=.returned (.tuple #[.int .i64 0,.int .i64 1])/\w'=w:=by
 have hS:=oI l;obtain⟨n,en⟩:∃n,l.length=n:=⟨_,rfl⟩;rw[en] at hS hl;obtain⟨S,eS⟩:∃S:ByteArray,(⟨l.toArray⟩:ByteArray)=S:=⟨_,rfl⟩;rw[eS] at hS ⊢;have hi:(60:Int)<(n:Int):=Yo;clear en eS;go_enter Tryz.func140,Tryz.ntmps140
 go_wp2_with fail
 go_ret2
 exact⟨rfl,rfl⟩
set_option maxHeartbeats 1000000 in
theorem XC(l:List UInt8)(mx:Int)(w:World)(hl:l.length<=60)(hm:w.cell? ⟨1,0,none⟩=some (.int .i64 mx)):Calls Tryz.prog 140 #[.string ⟨l.toArray⟩] w λe w'=>e=.returned (.tuple #[.int .i64 (iO l),.int .i64 (jT l)])/\Below w.heap.size w w':=by
 have hS:=oI l;have E1:=aB (show iO l=if qK l=false then 0 else if fP (iN l) then 0 else dO (iN l) from if_neg Yo);have E2:=aB (show jT l=if qK l=false then 2 else if fP (iN l) then 3 else 0 from if_neg Yo);have hcp:=λwx=>Tryz.strings_CutPrefix ⟨l.toArray⟩ ⟨#[45]⟩ wx
 have hrl:(Lib.trimPrefix l [45]).length<=60:=Nat.le_trans (Lib.trimPrefix_le l [45]) hl;have hct:=λwx h=>Tryz.strings_Cut ⟨(Lib.trimPrefix l [45]).toArray⟩ ⟨#[46]⟩ mx wx (by rw[oI];omega) h
 obtain⟨wh,fr,pt,epp⟩:∃wh fr pt,oF l=(wh,fr,pt):=⟨_,_,_,rfl⟩;have hwl:wh.length<=60/\fr.length<=60/\(pt=false->fr=[]):=by
  unfold oF Lib.cut at epp;split at epp
  .cases epp
   refine⟨?_,?_,λh=>by cases h⟩
   .rw[List.length_take];omega
   .rw[List.length_drop];omega
  .cases epp
   exact⟨hrl,Xz _,λ_=>rfl⟩
 obtain⟨ng,eng⟩:∃ng,DR l=ng:=⟨_,rfl⟩;have hcp2:∀wx:World,Calls Tryz.prog 199 #[.string ⟨l.toArray⟩,.string ⟨#[45]⟩] wx λe w'=>e=.returned (.tuple #[.string ⟨(Lib.trimPrefix l [45]).toArray⟩,.bool ng])/\w'=wx:=by
  intro wx;rw[<-eng];exact hcp wx
 have hct2:∀wx:World,wx.cell? ⟨1,0,none⟩=some (.int .i64 mx)->Calls Tryz.prog 200 #[.string ⟨(Lib.trimPrefix l [45]).toArray⟩,.string ⟨#[46]⟩] wx λe w'=>e=.returned (.tuple #[.string ⟨wh.toArray⟩,.string ⟨fr.toArray⟩,.bool pt])/\∃n,w'=wx.drewN n:=by
  intro wx h;have h1:=hct wx h;have e1:Lib.cut (⟨(Lib.trimPrefix l [45]).toArray⟩:ByteArray).data.toList (⟨#[46]⟩:ByteArray).data.toList=(wh,fr,pt):=epp;rw[e1] at h1;exact h1
 obtain⟨hw1,hf1,hpt⟩:=hwl;have HFB:=aB (show qK l=(wM wh&&(!pt||lU fr)) from by unfold qK;rw[epp]);have HM:=aB (show iN l=iI ng ((wholeV wh*4294967296+fracV fr ng:Nat):Int) from by unfold iN;rw[epp,eng]);have HCP:=aB hcp2;have HCT:=aB hct2;have HM0:=aB hm;have HPT:=aB hpt;have HIW:=aB (λwx=>SL wh Yo wx);have HID:=aB (λwx=>vM fr Yo wx);obtain⟨n,en⟩:∃n,l.length=n:=⟨_,rfl⟩;rw[en] at hS hl;have hli:(n:Int)<=60:=Yo;obtain⟨R0,eR0⟩:∃R0:ByteArray,(⟨(Lib.trimPrefix l [45]).toArray⟩:ByteArray)=R0:=⟨_,rfl⟩;rw[eR0] at HCP HCT;obtain⟨S,eS⟩:∃S:ByteArray,(⟨l.toArray⟩:ByteArray)=S:=⟨_,rfl⟩;rw[eS] at hS HCP ⊢;clear en eS hcp hct hcp2 hct2 hm hpt epp eng eR0 hrl;have base:∀(Q:Prop),Q->Q:=λ_ h=>h
 clear base
 cases hwb:wM wh
 .
  have EV:=aB (show iO l=0/\jT l=2 from by
   have hf:qK l=false:=by rw[aA HFB,hwb];rfl
   rw[aA E1,aA E2,if_pos hf,if_pos hf];exact⟨rfl,rfl⟩)
  have hiw:∀wx:World,Calls Tryz.prog 201 #[.string ⟨wh.toArray⟩] wx λe w'=>e=.returned (.bool false)/\w'=wx:=by
   intro wx;rw[<-hwb];exact aA HIW wx
  have HIW2:=aB hiw;clear hiw hwb;go_enter Tryz.func140,Tryz.ntmps140
  go_wp2_with fail
  refine (aA HCP _).mono ?_;rintro e w1 ⟨rfl,rfl⟩;go_wp2_with fail
  refine (aA HCT _ (aA HM0)).mono ?_;rintro e w2 ⟨rfl,k2,rfl⟩;go_wp2_with fail
  refine (aA HIW2 _).mono ?_;rintro e w3 ⟨rfl,rfl⟩;go_wp2_with fail
  go_ret2
  rw[(aA EV).1,(aA EV).2];exact⟨rfl,below_drewN (Below.refl _ _) _⟩
 .have hwd:wh.all mZ=true:=by
   unfold wM lU at hwb;simp only[Bool.and_eq_true] at hwb;exact hwb.1.1
  have hiw:∀wx:World,Calls Tryz.prog 201 #[.string ⟨wh.toArray⟩] wx λe w'=>e=.returned (.bool true)/\w'=wx:=by
   intro wx;rw[<-hwb];exact aA HIW wx
  have HIW2:=aB hiw;have HRW:=aB (λwx=>KW wh Yo hwd wx);clear hiw hwd;have tail : fr.all mZ = true -> qK l = true -> Hid (∀ wx : World, Below w.heap.size w wx -> Calls Tryz.prog 205 #[.string ⟨fr.toArray⟩, .bool ng] wx λe w' => e = .returned (.int .u64 (fracV fr ng : Int)) /\ Below w.heap.size w w') /\
    Hid (iO l=(if fP (iN l) then 0 else dO (iN l))/\jT l=(if fP (iN l) then 3 else 0))/\fracV fr ng<=4294967296:=by
   intro hfd hf;refine⟨?_,?_,aDv fr ng hfd⟩
   .intro wx hb;refine (BG fr ng hf1 hfd wx).mono ?_;rintro e w' ⟨h1,h2⟩;exact⟨h1,hb.trans (h2.mono hb.size)⟩
   .show _/\_
    rw[aA E1,aA E2,hf];exact⟨rfl,rfl⟩
  cases pt
  .
   have hfr:=aA HPT rfl;subst hfr;obtain⟨HRF,EV,hfle⟩:=tail rfl (by rw[aA HFB,hwb];rfl);clear tail hwb;go_enter Tryz.func140,Tryz.ntmps140
   go_wp2_with fail
   refine (aA HCP _).mono ?_;rintro e w1 ⟨rfl,rfl⟩;go_wp2_with fail
   refine (aA HCT _ (aA HM0)).mono ?_;rintro e w2 ⟨rfl,k2,rfl⟩;go_wp2_with fail
   refine (aA HIW2 _).mono ?_;rintro e w3 ⟨rfl,rfl⟩;go_wp2_with fail
   refine (aA HRW _).mono ?_;rintro e w4 ⟨rfl,rfl⟩;obtain⟨V,eV⟩:∃V,wholeV wh=V:=⟨_,rfl⟩;have hV:V<=2147483649:=by rw[<-eV];exact U0 wh
   rw[eV] at HM ⊢;clear eV;go_wp2_with fail
   refine (aA HRF _ (below_drewN (Below.refl _ _) k2)).mono ?_;rintro e w5 ⟨rfl,k5⟩;have K5:=aB k5;obtain⟨f,ef⟩:∃f,fracV [] ng=f:=⟨_,rfl⟩;rw[ef] at HM hfle ⊢;have HM2:=aB (show iN l=iI ng ((V:Int)*4294967296+(f:Int)) from by rw[aA HM];congr 1);clear ef k5;go_wp2_with fail
   refine (pQ ng ((V:Int)*4294967296+(f:Int)) Yo Yo _).mono ?_;rintro e w6 ⟨rfl,rfl⟩;rw[<-aA HM2]
   cases hb:fP (iN l)
   .have EV2:=aB (show iO l=dO (iN l)/\jT l=0 from by have h:=aA EV;rw[hb] at h;exact h);clear hb;obtain⟨z,ez⟩:∃z,dO (iN l)=z:=⟨_,rfl⟩;rw[ez] at EV2 ⊢;clear ez;go_wp2_with fail
    go_ret2
    rw[(aA EV2).1,(aA EV2).2];exact⟨rfl,aA K5⟩
   .have EV2:=aB (show iO l=0/\jT l=3 from by have h:=aA EV;rw[hb] at h;exact h);clear hb;obtain⟨z,ez⟩:∃z,dO (iN l)=z:=⟨_,rfl⟩;rw[ez];clear ez;go_wp2_with fail
    go_ret2
    rw[(aA EV2).1,(aA EV2).2];exact⟨rfl,aA K5⟩
  .
   cases hfb:lU fr
   .have EV:=aB (show iO l=0/\jT l=2 from by
     have hf:qK l=false:=by rw[aA HFB,hwb,hfb];rfl
     rw[aA E1,aA E2,if_pos hf,if_pos hf];exact⟨rfl,rfl⟩)
    have hid:∀wx:World,Calls Tryz.prog 202 #[.string ⟨fr.toArray⟩] wx λe w'=>e=.returned (.bool false)/\w'=wx:=by
     intro wx;rw[<-hfb];exact aA HID wx
    have HID2:=aB hid;clear hid hwb hfb tail;go_enter Tryz.func140,Tryz.ntmps140
    go_wp2_with fail
    refine (aA HCP _).mono ?_;rintro e w1 ⟨rfl,rfl⟩;go_wp2_with fail
    refine (aA HCT _ (aA HM0)).mono ?_;rintro e w2 ⟨rfl,k2,rfl⟩;go_wp2_with fail
    refine (aA HIW2 _).mono ?_;rintro e w3 ⟨rfl,rfl⟩;go_wp2_with fail
    refine (aA HID2 _).mono ?_;rintro e w4 ⟨rfl,rfl⟩;go_wp2_with fail
    go_ret2
    rw[(aA EV).1,(aA EV).2];exact⟨rfl,below_drewN (Below.refl _ _) _⟩
   .have hid:∀wx:World,Calls Tryz.prog 202 #[.string ⟨fr.toArray⟩] wx λe w'=>e=.returned (.bool true)/\w'=wx:=by
     intro wx;rw[<-hfb];exact aA HID wx
    have HID2:=aB hid;obtain⟨HRF,EV,hfle⟩:=tail (by unfold lU at hfb;simp only[Bool.and_eq_true] at hfb;exact hfb.1) (by rw[aA HFB,hwb,hfb];rfl);clear hid tail hwb hfb;go_enter Tryz.func140,Tryz.ntmps140
    go_wp2_with fail
    refine (aA HCP _).mono ?_;rintro e w1 ⟨rfl,rfl⟩;go_wp2_with fail
    refine (aA HCT _ (aA HM0)).mono ?_;rintro e w2 ⟨rfl,k2,rfl⟩;go_wp2_with fail
    refine (aA HIW2 _).mono ?_;rintro e w3 ⟨rfl,rfl⟩;go_wp2_with fail
    refine (aA HID2 _).mono ?_;rintro e w3 ⟨rfl,rfl⟩;go_wp2_with fail
    refine (aA HRW _).mono ?_;rintro e w4 ⟨rfl,rfl⟩;obtain⟨V,eV⟩:∃V,wholeV wh=V:=⟨_,rfl⟩;have hV:V<=2147483649:=by rw[<-eV];exact U0 wh
    rw[eV] at HM ⊢;clear eV;go_wp2_with fail
    refine (aA HRF _ (below_drewN (Below.refl _ _) k2)).mono ?_;rintro e w5 ⟨rfl,k5⟩;have K5:=aB k5;obtain⟨f,ef⟩:∃f,fracV fr ng=f:=⟨_,rfl⟩;rw[ef] at HM hfle ⊢;have HM2:=aB (show iN l=iI ng ((V:Int)*4294967296+(f:Int)) from by rw[aA HM];congr 1);clear ef k5;go_wp2_with fail
    refine (pQ ng ((V:Int)*4294967296+(f:Int)) Yo Yo _).mono ?_;rintro e w6 ⟨rfl,rfl⟩;rw[<-aA HM2]
    cases hb:fP (iN l)
    .have EV2:=aB (show iO l=dO (iN l)/\jT l=0 from by have h:=aA EV;rw[hb] at h;exact h);clear hb;obtain⟨z,ez⟩:∃z,dO (iN l)=z:=⟨_,rfl⟩;rw[ez] at EV2 ⊢;clear ez;go_wp2_with fail
     go_ret2
     rw[(aA EV2).1,(aA EV2).2];exact⟨rfl,aA K5⟩
    .have EV2:=aB (show iO l=0/\jT l=3 from by have h:=aA EV;rw[hb] at h;exact h);clear hb;obtain⟨z,ez⟩:∃z,dO (iN l)=z:=⟨_,rfl⟩;rw[ez];clear ez;go_wp2_with fail
     go_ret2
     rw[(aA EV2).1,(aA EV2).2];exact⟨rfl,aA K5⟩
theorem aBg(l:List UInt8)(mx:Int)(w:World)(hm:w.cell? ⟨1,0,none⟩=some (.int .i64 mx)):Calls Tryz.prog 140 #[.string ⟨l.toArray⟩] w λe w'=>e=.returned (.tuple #[.int .i64 (iO l),.int .i64 (jT l)])/\Below w.heap.size w w':=by
 rcases Nat.lt_or_ge 60 l.length with h|h
 .refine (aBh l w h).mono ?_;rintro e w' ⟨rfl,rfl⟩;unfold iO jT;rw[if_pos h,if_pos h];exact⟨rfl,Below.refl _ _⟩
 .exact XC l mx w h hm
def fA(c:UInt8):List UInt8->List (List UInt8)
 |[]=>[[]]
 |x::l=>if x=c then []::fA c l else match fA c l with
  |[]=>[[x]]
  |a::r=>(x::a)::r
theorem splC_ne(c:UInt8)(l:List UInt8):fA c l≠[]:=by
 cases l with
 |nil=>exact λh=>nomatch h
 |cons x l=>
  unfold fA;split
  .exact λh=>nomatch h
  .split<;>exact λh=>nomatch h
noncomputable def gI (a:Int):List UInt8:=iM a++(open Classical in if h:∃l,TextOf (absZ a).toNat l then Classical.choose h else [])
theorem VK{a:Int}{l:List UInt8}(h:TextOf (absZ a).toNat l):iM a++l=gI a:=by
 unfold gI;have h1:∃l,TextOf (absZ a).toNat l:=⟨l,h⟩;rw[dif_pos h1];exact congrArg _ (h.one (Classical.choose_spec h1))
def oL(d:Nat):UInt8:=if d<10 then UInt8.ofNat (48+d) else UInt8.ofNat (87+d)
def kU(u:Nat):List UInt8:=if _h:u<16 then [oL u] else kU (u/16)++[oL (u%16)]
termination_by u
decreasing_by omega
noncomputable def wQ (n:Nd):Nat->List UInt8
 |0=>[]
 |a+1=>wQ n a++([32]++gI (n.us a)++[62]++gI (n.ax a).X)
def tH(I:Nat->Bool):Nat->List UInt8
 |0=>[]
 |i+1=>tH I i++(if I i then [] else [32,111,117,116]++itoa (i:Nat))
noncomputable def rpT (n:Nd):List UInt8:=
 [110,111,100,101,32]++itoa n.id++[32,102,114,97,109,101,32]++itoa n.fr++wQ n 3++[32]++kU n.dg.toNat++(if n.vS then [] else [32,119,101,97,107])++tH n.rl.I 4++[10]
def numW(ws:List (List UInt8)):Option (List Int):=if ws.all (λw=>decide (jT w=0)) then some (ws.map iO) else none
def digW(w:List UInt8)(last:Nat):Option Nat:=match w with
 |[c]=>if 48<=c.toNat/\c.toNat<=48+last then some (c.toNat-48) else none
 |_=>none
structure Pl where
 c:Cl
 x:Ip
 o:List UInt8
def FN:Pl:=⟨begC ⟨4294967296,4294967296,4294967296,68719476736⟩,⟨λ_ _=>0, -1,[]⟩,[]⟩
def tunP(s:Pl)(ws:List (List UInt8)):Option Pl:=match numW ws with
 |some [a,b,c,d]=>some { s with c:=begC ⟨a,b,c,d⟩ }
 |_=>none
def nN(s:Pl):List (List UInt8)->Option Pl
 |k::ws=>match digW k 3,numW ws with
  |some i,some [a,b,c]=>some { s with x:={ s.x with rd:=λj q=>if j=i then gL [a,b,c] q else s.x.rd j q } }
  |_,_=>none
 |_=>none
def zC(s:Pl):List (List UInt8)->Option Pl
 |[k]=>(digW k 3).map λi=>{ s with x:={ s.x with bad:=(i:Nat) } }
 |_=>none
def NM(s:Pl):List (List UInt8)->Option Pl
 |[]=>some { s with x:={ s.x with bad:= -1,ly:=[] } }
 |_=>none
def qM(s:Pl):List (List UInt8)->Option Pl
 |p::t::k::ws=>if s.x.bad= -1\/400<=s.x.ly.length then none else match digW p 4,digW t 3,digW k 9,numW ws with
  |some p,some t,some k,some v=>if wrongM (k:Nat) s.x.bad s.c.fr v.length=0 then some { s with x:={ s.x with ly:=s.x.ly++[⟨(p:Nat),(t:Nat),12+8*v.length,enS (k:Nat) s.x.bad s.c.fr v.length (gL v)⟩] } } else none
  |_,_,_,_=>none
 |_=>none
noncomputable def qL (s:Pl):List (List UInt8)->Option Pl
 |[]=>if bU s.x s.c=0 then some ⟨frC s.x s.c,{ s.x with ly:=[] },s.o++(frR s.x s.c).flatMap rpT⟩ else none
 |_=>none
noncomputable def lZ (s:Pl) (l:List UInt8):Option Pl:=
 if l=[] then some s else match fA 32 l with
 |[]=>none
 |k::ws=>if k=[116,117,110,101] then tunP s ws else if k=[114,101,97,100] then nN s ws else if k=[98,97,100] then zC s ws else if k=[103,111,111,100] then NM s ws else if k=[108,105,101] then qM s ws else if k=[102,114,97,109,101] then qL s ws else none
noncomputable def linS (s:Pl) (k:Nat) (l:List UInt8):Pl:=match lZ s l with
 |some t=>t
 |none=>{ s with o:=s.o++([119,114,111,110,103,32]++itoa ((k+1:Nat):Int)++[10]) }
noncomputable def linK (L:List (List UInt8)):Nat->Pl
 |0=>FN
 |k+1=>linS (linK L k) k (L.getD k [])
noncomputable def zS (l:List UInt8):List UInt8:=if 20000<l.length then [] else if 400<(fA 10 l).length then [] else (linK (fA 10 l) (fA 10 l).length).o
def zR(l:List UInt8):Int:=if 20000<l.length then 1 else if 400<(fA 10 l).length then 6 else 0
end Go.Proofs.YthimcecbgpamdaaGreatDoor
