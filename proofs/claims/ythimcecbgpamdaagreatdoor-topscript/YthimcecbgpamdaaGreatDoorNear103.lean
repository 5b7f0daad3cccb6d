import Derived.Test.YthimcecbgpamdaaGreatDoorNear191
set_option maxHeartbeats 1000000
namespace Go.Proofs.YthimcecbgpamdaaGreatDoor
open Go.RowKit
theorem aKR:(Tryz.prog.info? 5).map (λi=>(i.zero,i.size,i.bytes))=some (some (.int .u8 0),1,1):=Yl
def yF(l:List UInt8):List Value:=l.map λb=>.int .u8 (b.toNat:Int)
theorem VZ(l m:List UInt8):yF (l++m)=yF l++yF m:=List.map_append
variable{v:Value}{w:World}
theorem KY{base n:Nat}{l:List UInt8}(h:w.ownsRow base 5 1 v n (yF l))(hn:0<n)(hl:l.length=n):(convert 65 9 v).run Tryz.prog w=.ok (.string ⟨l.toArray⟩) w:=by
 have h0:=h;rcases h.2 with ⟨_,h1⟩|⟨g,cap,cur,rfl, -, -, -, -, -, -⟩
 .omega
 .subst hl;refine run_convert_bytes_back w 65 9 5 ⟨g,0,none⟩ cap l Tryz.underlying65 Tryz.underlying5 Tryz.underlying9 (λk hk=>?_);rw[Lib.add_plain,Nat.zero_add,h0.cellAt k Yo];unfold yF;rw[List.getElem?_map,List.getElem?_eq_getElem hk];rfl
variable{xs:List Value}
theorem aAW{base e n:Nat}(h:w.ownsRow base e 1 v n xs):∃(ao:Option Addr) (cv:Nat),v=.slice ao n cv:=by
 rcases h.2 with ⟨h1,h2⟩|⟨g,cap,cur,h1, -⟩
 .exact⟨none,0,by rw[h1,h2]⟩
 .exact⟨_,_,h1⟩
theorem SF{B:Nat}{a w':World}{e size n:Nat}(h:Below B a w)(ho:w.ownsRow B e size v n xs)(hB:B<=w.heap.size)(hg:w.grownBy w' v.ownBlock):Below B a w':=
 h.grown hg hB (λk hk=>(ho.lt k hk).1)
theorem NI(R:Nat)(hR:0<R)(hR1:R<4294967296)(w:World):Calls Tryz.prog 29 #[.int .u64 R] w λe w'=>∃i,i<=31/\fRest R i≠0/\fRest R (i+1)=0/\e=.returned (.string ⟨(jA (i+1) (iR R (i+1))).toArray⟩)/\Below w.heap.size w w':=by
 obtain⟨i0,hi,hz0,hz1,hz2⟩:=info_parts aKR;have e0:fRest R 0=R:=by unfold fRest;rw[Nat.pow_zero,Nat.mul_one];exact Nat.mod_eq_of_lt hR1
 go_enter Tryz.func29,Tryz.ntmps29
 go_wp2_with fail
 go_loopg [0,3] 32 (λgk rs v wr=>∃(i:Nat) (ao:Option Addr) (cv:Nat),gk=32-i/\i<=32/\rs=.int .u64 ((fRest R i:Nat):Int)/\v=.slice ao i cv/\wr.ownsRow w.heap.size 5 1 v i (yF (jA i (iR R i)))/\(∀j,j<i->fRest R j≠0)/\Below w.heap.size w wr)
 case atStart=>exact⟨0,none,0,rfl,Xz _,by rw[e0],rfl,World.ownsRow_nil _ _ _ _,λj hj=>absurd hj Yo,Below.refl _ _⟩
 case round=>
  obtain⟨i,ao,cv,rfl,h32,rfl,rfl,hown,hall,hnx⟩:=hrel;have HALL:=aB hall;have HNX:=aB hnx;have hsize:=hnx.size;clear hall hnx;obtain⟨r,er⟩:∃r,fRest R i=r:=⟨_,rfl⟩;have hr:r<4294967296:=by rw[<-er];exact NC R i
  have ER:=aB er;rw[er];clear er;rcases Nat.eq_zero_or_pos r with h0|h0
  .subst h0;have hi0:i≠0:=by
    rintro rfl;have:=aA ER;omega
   obtain⟨k,rfl⟩:∃k,i=k+1:=⟨i-1,Yo⟩;have hcv:=KY hown Yo (jW _ _);have hne:(((0:Nat):Int)!=0)=false:=rfl;go_wp2_with fail
   go_ret
   exact⟨k,Yo,aA HALL k Yo,aA ER,rfl,aA HNX⟩
  .have hne:((r:Int)!=0)=true:=by simp;omega
   have hd:r*10/4294967296<10:=Yo;have h32':i≠32:=by
    rintro rfl;have:=aA ER;rw[aDp] at this;omega
   have em:bits .and .u64 ((r:Int)*10) 4294967295=(((r*10%4294967296:Nat)):Int):=by
    have:=M64.maskN (r*10) Yo;rw[<-this];rfl
   obtain⟨d,ed⟩:∃d,r*10/4294967296=d:=⟨_,rfl⟩;have ed':(r:Int)*10/4294967296=(d:Int):=Yo;have hd':d<10:=Yo;have HE:=aB (And.intro ed em);clear ed;go_wp2_with (first
    |(at_builtin;refine wpList_append_own _ rfl _ _ 65 rfl w.heap.size 5 i0 (.int .u8 0) 1 1 Tryz.underlying65 hi hz0 hz1 hz2 rfl Yc _ _ _ rfl (hown.alloc _) ⟨wr.heap.size,0,none⟩ 1 1 [.int .u8 (48+(d:Int))] rfl rfl (cell_one_new _ _ _) (λx hx=>by simp at hx;subst hx;rfl) Ym Yo (by simp;omega) ?_;intro v' w3 hown' hgrow3 hnil3))
   go_roundg (32-(i+1))
   case measure=>omega
   case rel=>
    obtain⟨ao',cv',hv'⟩:=aAW hown';refine⟨i+1,ao',cv',rfl,Yo,?_,hv',?_,?_,?_⟩
    .rw[CW,aA ER];rfl
    .rw[JM,VZ,aA ER,(aA HE).1];show w3.ownsRow _ _ _ _ _ (_++[.int .u8 ((CS d).toNat:Int)])
     rw[wV hd'];exact hown'
    .intro j hj;rcases Nat.lt_or_ge j i with h|h
     .exact aA HALL j h
     .obtain rfl:j=i:=Yo;rw[aA ER];omega
    .exact SF ((aA HNX).alloc hsize _) (hown.alloc _) (by simp;omega) hgrow3
end Go.Proofs.YthimcecbgpamdaaGreatDoor
namespace Go.Proofs.YthimcecbgpamdaaGreatDoor
open Go.RowKit Go.Lib
def TextOf(m:Nat)(l:List UInt8):Prop:=
 (m%4294967296=0/\l=decDigits (m/4294967296))\/
 ∃i,i<=31/\fRest (m%4294967296) i≠0/\fRest (m%4294967296) (i+1)=0/\l=decDigits (m/4294967296)++46::jA (i+1) (iR (m%4294967296) (i+1))
variable{l:List UInt8}
theorem TextOf.one{m:Nat}{l':List UInt8}(h:TextOf m l)(h':TextOf m l'):l=l':=by
 have zero:∀R i,R=0->fRest R i=0:=λR i h=>by subst h;unfold fRest;rw[Nat.zero_mul]
 rcases h with ⟨h1,h2⟩|⟨i,hi,h1,h2,h3⟩<;>rcases h' with ⟨k1,k2⟩|⟨j,hj,k1,k2,k3⟩
 .rw[h2,k2]
 .exact absurd (zero _ j h1) k1
 .exact absurd (zero _ i k1) h1
 .have hij:i=j:=by
   rcases Nat.lt_trichotomy i j with h|h|h
   .obtain⟨d,rfl⟩:∃d,j=i+1+d:=⟨j-(i+1),Yo⟩;exact absurd (BD _ _ h2 d).1 k1
   .exact h
   .obtain⟨d,rfl⟩:∃d,i=j+1+d:=⟨i-(j+1),Yo⟩;exact absurd (BD _ _ k2 d).1 h1
  subst hij;rw[h3,k3]
def iM(a:Int):List UInt8:=if a<0 then [45] else []
set_option maxRecDepth 100000 in
theorem aFE (a : Int) (ha : R64 a) (w : World) (htab : Lib.TabIs Tryz.prog w "internal/strconv.uint64pow10" .u64 Lib.pow10Tab) :
  Calls Tryz.prog 7 #[.int .i64 a] w λe w'=>∃l,TextOf (absZ a).toNat l/\e=.returned (.string ⟨(iM a++l).toArray⟩)/\Below w.heap.size w w':=by
 have HA:=aB ha;have HT:=aB htab;have hab:=nV ha;obtain⟨m,em⟩:∃m:Nat,absZ a=m:=⟨(absZ a).toNat,Yo⟩;rw[em] at hab;rw[show (absZ a).toNat=m by rw[em];rfl];have EM:=aB em;obtain⟨W,eW⟩:∃W:Nat,m/4294967296=W:=⟨_,rfl⟩;obtain⟨R,eR⟩:∃R:Nat,m%4294967296=R:=⟨_,rfl⟩;have eW':(m:Int)/4294967296=(W:Int):=Yo;have eR':bits .and .u64 (m:Int) 4294967295=(R:Int):=by rw[M64.maskN m Yo,eR]
 have hW:W<18446744073709551616:=Yo;have hR:R<4294967296:=Yo;have hm0:(0:Int)<=m:=Yo;have hm1:(m:Int)<18446744073709551616:=Yo;have TO:=aB (show TextOf m=λl=>(R=0/\l=decDigits W)\/∃i,i<=31/\fRest R i≠0/\fRest R (i+1)=0/\l=decDigits W++46::jA (i+1) (iR R (i+1)) from by
  funext l;unfold TextOf;rw[eW,eR])
 clear ha htab em eW eR hab;go_enter Tryz.func7,Tryz.ntmps7
 go_wp2_with fail
 refine (wH a (aA HA) _).mono ?_;rintro e w1 ⟨rfl,rfl⟩;rw[aA EM];go_wp2_with fail
 refine (FZ W hW _ (aA HT)).mono ?_;rintro e w2 ⟨rfl,k2⟩;have K2:=aB k2;clear k2;have hS:(⟨(decDigits W).toArray⟩:ByteArray).size<=20:=by
  show (decDigits W).toArray.size<=20
  rw[List.size_toArray,decDigits_length];exact uL Yc Yo
 obtain⟨S,eS⟩:∃S:ByteArray,(⟨(decDigits W).toArray⟩:ByteArray)=S:=⟨_,rfl⟩;rw[eS] at hS ⊢;have ES:=aB eS;clear eS;have hcat:=λwx=>run_string_add_sum (P:=Tryz.prog) (w:=wx) ⟨#[45]⟩ S (by show 1+S.size<=_;omega)
 obtain⟨S2,eS2⟩:∃S2:ByteArray,(⟨#[45]⟩:ByteArray)++S=S2:=⟨_,rfl⟩;rw[eS2] at hcat;have ES2:=aB eS2;clear eS2;rcases Int.lt_or_le a 0 with h|h
 .have MN:=aB (show iM a=[45] from if_pos h);have hS2:S2.size<=21:=by rw[<-aA ES2,ByteArray.size_append];show 1+S.size<=21;omega
  have ET:=aB (show S2=⟨(iM a++decDigits W).toArray⟩ from by rw[<-aA ES2, <-aA ES,aA MN];exact ByteArray.mk_append_mk [45] _);have hdot:=λwx=>run_string_add_sum (P:=Tryz.prog) (w:=wx) S2 ⟨#[46]⟩ (by show S2.size+1<=_;omega)
  obtain⟨S3,eS3⟩:∃S3:ByteArray,S2++(⟨#[46]⟩:ByteArray)=S3:=⟨_,rfl⟩;rw[eS3] at hdot;have ES3:=aB eS3;have hS3:S3.size<=22:=by rw[<-eS3,ByteArray.size_append];show S2.size+1<=22;omega
  clear eS3;rcases Nat.eq_zero_or_pos R with h0|h0
  .have hz:((R:Int)==0)=true:=by simp;omega
   have H0:=aB h0;clear h0;go_wp2_with fail
   go_ret
   refine⟨decDigits W,?_,?_,aA K2⟩
   .rw[aA TO];exact Or.inl ⟨aA H0,rfl⟩
   .rw[<-aA ET];rfl
  .have hz:((R:Int)==0)=false:=by simp;omega
   go_wp2_with fail
   refine (NI R h0 hR _).mono ?_;rintro e w3 ⟨i,i31,f1,f2,rfl,k3⟩;have hF:(⟨(jA (i+1) (iR R (i+1))).toArray⟩:ByteArray).size<=32:=by
    show (jA (i+1) (iR R (i+1))).toArray.size<=32
    rw[List.size_toArray,jW];omega
   have K3:=aB ((aA K2).trans (k3.mono (aA K2).size));have FF:=aB (And.intro f1 f2);obtain⟨F,eF⟩:∃F:ByteArray,(⟨(jA (i+1) (iR R (i+1))).toArray⟩:ByteArray)=F:=⟨_,rfl⟩;rw[eF] at hF ⊢;have EF:=aB eF;have hend:=λwx=>run_string_add_sum (P:=Tryz.prog) (w:=wx) S3 F Yo
   clear eF f1 f2 k3;obtain⟨S4,eS4⟩:∃S4:ByteArray,S3++F=S4:=⟨_,rfl⟩;rw[eS4] at hend;have ES4:=aB eS4;clear eS4;go_wp2_with fail
   go_ret
   refine⟨decDigits W++46::jA (i+1) (iR R (i+1)),?_,?_,aA K3⟩
   .rw[aA TO];exact Or.inr ⟨i,i31,(aA FF).1,(aA FF).2,rfl⟩
   .show Ending.returned (Value.string S4)=_
    rw[<-aA ES4, <-aA ES3, <-aA EF,aA ET,ByteArray.mk_append_mk (iM a++decDigits W) [46],ByteArray.mk_append_mk];simp[List.append_assoc]
 .have MN:=aB (show iM a=[] from if_neg Yo);have hnd:decide (a<0)=false:=Xf Yo;have ET:=aB (show S=⟨(iM a++decDigits W).toArray⟩ from by rw[<-aA ES,aA MN];rfl);have hdot:=λwx=>run_string_add_sum (P:=Tryz.prog) (w:=wx) S ⟨#[46]⟩ (by show S.size+1<=_;omega)
  obtain⟨S3,eS3⟩:∃S3:ByteArray,S++(⟨#[46]⟩:ByteArray)=S3:=⟨_,rfl⟩;rw[eS3] at hdot;have ES3:=aB eS3;have hS3:S3.size<=22:=by rw[<-eS3,ByteArray.size_append];show S.size+1<=22;omega
  clear eS3;rcases Nat.eq_zero_or_pos R with h0|h0
  .have hz:((R:Int)==0)=true:=by simp;omega
   have H0:=aB h0;clear h0;go_wp2_with fail
   go_ret
   refine⟨decDigits W,?_,?_,aA K2⟩
   .rw[aA TO];exact Or.inl ⟨aA H0,rfl⟩
   .rw[<-aA ET];rfl
  .have hz:((R:Int)==0)=false:=by simp;omega
   go_wp2_with fail
   refine (NI R h0 hR _).mono ?_;rintro e w3 ⟨i,i31,f1,f2,rfl,k3⟩;have hF:(⟨(jA (i+1) (iR R (i+1))).toArray⟩:ByteArray).size<=32:=by
    show (jA (i+1) (iR R (i+1))).toArray.size<=32
    rw[List.size_toArray,jW];omega
   have K3:=aB ((aA K2).trans (k3.mono (aA K2).size));have FF:=aB (And.intro f1 f2);obtain⟨F,eF⟩:∃F:ByteArray,(⟨(jA (i+1) (iR R (i+1))).toArray⟩:ByteArray)=F:=⟨_,rfl⟩;rw[eF] at hF ⊢;have EF:=aB eF;have hend:=λwx=>run_string_add_sum (P:=Tryz.prog) (w:=wx) S3 F Yo
   clear eF f1 f2 k3;obtain⟨S4,eS4⟩:∃S4:ByteArray,S3++F=S4:=⟨_,rfl⟩;rw[eS4] at hend;have ES4:=aB eS4;clear eS4;go_wp2_with fail
   go_ret
   refine⟨decDigits W++46::jA (i+1) (iR R (i+1)),?_,?_,aA K3⟩
   .rw[aA TO];exact Or.inr ⟨i,i31,(aA FF).1,(aA FF).2,rfl⟩
   .show Ending.returned (Value.string S4)=_
    rw[<-aA ES4, <-aA ES3, <-aA EF,aA ET,ByteArray.mk_append_mk (iM a++decDigits W) [46],ByteArray.mk_append_mk];simp[List.append_assoc]
def mZ(c:UInt8):Bool:=decide (48<=c.toNat)&&decide (c.toNat<=57)
theorem pW(c:UInt8):mZ c=true↔48<=c.toNat/\c.toNat<=57:=by unfold mZ;simp
def lU(l:List UInt8):Bool:=l.all mZ&& !l.isEmpty
def kN(l:List UInt8):Nat:=l.foldl (λn c=>n*10+(c.toNat-48)) 0
theorem L8(l:List UInt8)(c:UInt8):kN (l++[c])=kN l*10+(c.toNat-48):=by unfold kN;rw[List.foldl_append];rfl
variable{k:Nat}
theorem aCm(hk:k<l.length):l.take (k+1)=l.take k++[l[k]]:=(List.take_append_getElem hk).symm
theorem oI(l:List UInt8):(⟨l.toArray⟩:ByteArray).size=l.length:=by show l.toArray.size=_;rw[List.size_toArray]
theorem PP(l:List UInt8)(k:Nat)(hk:k<l.length)(w:World):(Instr.index 9 (.string ⟨l.toArray⟩) (.int .i64 (k:Int))).run Tryz.prog w=.ok (.int .u8 (l[k].toNat:Int)) w:=by
 rw[run_index_string _ _ _ _ _ Tryz.underlying9,dif_pos (by rw[oI];omega)];rfl
theorem vM(l:List UInt8)(hl:l.length<=9223372036854775807)(w:World):Calls Tryz.prog 202 #[.string ⟨l.toArray⟩] w λe w'=>e=.returned (.bool (lU l))/\w'=w:=by
 have hS:=oI l;have hat:=PP l;have HAT:=aB hat;obtain⟨n,en⟩:∃n,l.length=n:=⟨_,rfl⟩;rw[en] at hS hl;obtain⟨S,eS⟩:∃S:ByteArray,(⟨l.toArray⟩:ByteArray)=S:=⟨_,rfl⟩;rw[eS] at hS ⊢;have EN:=aB en;have ES:=aB eS;clear en eS hat;go_enter Tryz.func202,Tryz.ntmps202
 go_wp2_with fail
 go_loopg [3,6] n (λgk _ ks wx=>∃k:Nat,gk=n-k/\k<=n/\ks=.int .i64 (k:Int)/\(∀j,j<k->∀h:j<l.length,mZ (l[j]'h)=true)/\w=wx)
 case atStart=>exact⟨0,rfl,Xz _,rfl,λj hj=>absurd hj Yo,rfl⟩
 case round=>
  obtain⟨k,rfl,hk,rfl,hall,rfl⟩:=hrel;have HALL:=aB hall;clear hall;by_cases hkn:k<n
  .have hkl:k<l.length:=by rw[aA EN];exact hkn
   have hix:=λwx=>aA HAT k hkl wx
   rw[aA ES] at hix;obtain⟨c,ec⟩:∃c:Nat,(l[k]).toNat=c:=⟨_,rfl⟩;rw[ec] at hix;have EC:=aB ec;have hki:(k:Int)<(n:Int):=Yo;have hc256:c<256:=by rw[<-ec];exact UInt8.toNat_lt _
   by_cases hd:48<=c/\c<=57
   .obtain⟨hd1,hd2⟩:=hd;have b1:decide ((c:Int)<48)=false:=Xf Yo;have b2:decide ((57:Int)<(c:Int))=false:=Xf Yo;clear ec;go_wp2_with fail
    go_roundg (n-(k+1))
    case measure=>omega
    case rel=>
     refine⟨k+1,rfl,Yo,by go_num,?_,rfl⟩;intro j hj h;rcases Nat.lt_or_ge j k with h1|h1
     .exact aA HALL j h1 h
     .obtain rfl:j=k:=Yo;rw[pW,aA EC];exact⟨hd1,hd2⟩
   .have FIN:=aB (show lU l=false from by
     unfold lU;have:l.all mZ=false:=by
      rw[List.all_eq_false];exact⟨l[k],List.getElem_mem _,by rw[pW,ec];exact hd⟩
     rw[this];rfl)
    clear ec;rcases (show c<48\/57<c by omega) with h1|h1
    .have b1:decide ((c:Int)<48)=true:=Xt Yo;clear hd;go_wp2_with fail
     go_ret
     rw[aA FIN];exact⟨rfl,rfl⟩
    .have b1:decide ((c:Int)<48)=false:=Xf Yo;have b2:decide ((57:Int)<(c:Int))=true:=Xt Yo;clear hd;go_wp2_with fail
     go_ret
     rw[aA FIN];exact⟨rfl,rfl⟩
  .obtain rfl:k=n:=Yo;have hki:¬(k:Int)<(k:Int):=Yo;have FIN:=aB (show lU l= !l.isEmpty from by
    unfold lU;have:l.all mZ=true:=by
     rw[List.all_eq_true];intro c hc;obtain⟨j,hj,rfl⟩:=List.mem_iff_getElem.1 hc;exact aA HALL j (by rw[<-aA EN];exact hj) hj
    rw[this];rfl)
   go_wp2_with fail
   go_ret
   refine⟨?_,rfl⟩;show Ending.returned (Value.bool (!S.toList.isEmpty))=_
   rw[aA FIN,Lib.toList_data, <-aA ES]
def wholeV(l:List UInt8):Nat:=if kN l<=2147483649 then kN l else 2147483649
theorem TH(l:List UInt8)(c:UInt8)(d:Nat)(hd:c.toNat-48=d):wholeV (l++[c])=if wholeV l*10+d<=2147483649 then wholeV l*10+d else 2147483649:=by
 unfold wholeV;rw[L8,hd]
 repeat' split
 all_goals omega
theorem U0(l:List UInt8):wholeV l<=2147483649:=by unfold wholeV;split<;>omega
theorem KW(l:List UInt8)(hl:l.length<=9223372036854775807)(hd:l.all mZ=true)(w:World):Calls Tryz.prog 204 #[.string ⟨l.toArray⟩] w λe w'=>e=.returned (.int .u64 (wholeV l:Int))/\w'=w:=by
 have hS:=oI l;have HAT:=aB (PP l);have HD:=aB hd;obtain⟨n,en⟩:∃n,l.length=n:=⟨_,rfl⟩;rw[en] at hS hl;obtain⟨S,eS⟩:∃S:ByteArray,(⟨l.toArray⟩:ByteArray)=S:=⟨_,rfl⟩;rw[eS] at hS ⊢;have EN:=aB en;have ES:=aB eS;clear en eS hd;go_enter Tryz.func204,Tryz.ntmps204
 go_wp2_with fail
 go_loopg [3,4,7] n (λgk ns _ ks wx=>∃k:Nat,gk=n-k/\k<=n/\ks=.int .i64 (k:Int)/\ns=.int .u64 (wholeV (l.take k):Int)/\w=wx)
 case atStart=>exact⟨0,rfl,Xz _,rfl,rfl,rfl⟩
 case round=>
  obtain⟨k,rfl,hk,rfl,rfl,rfl⟩:=hrel;obtain⟨v,ev⟩:∃v,wholeV (l.take k)=v:=⟨_,rfl⟩;have hv:v<=2147483649:=by rw[<-ev];exact U0 _
  rw[ev];have EV:=aB ev;clear ev;by_cases hkn:k<n
  .have hkl:k<l.length:=by rw[aA EN];exact hkn
   have hix:=λwx=>aA HAT k hkl wx
   rw[aA ES] at hix;have hdd:=(pW l[k]).1 (List.all_eq_true.1 (aA HD) _ (List.getElem_mem hkl));have HTK:=aB (aCm hkl);obtain⟨c,ec⟩:∃c:Nat,(l[k]).toNat=c:=⟨_,rfl⟩;rw[ec] at hix hdd;have HNX:=aB (show wholeV (l.take (k+1))=if v*10+(c-48)<=2147483649 then v*10+(c-48) else 2147483649 from by
    rw[aA HTK,TH _ _ (c-48) (by rw[ec]),aA EV])
   obtain⟨hd1,hd2⟩:=hdd;have hki:(k:Int)<(n:Int):=Yo;obtain⟨d,rfl⟩:∃d,c=d+48:=⟨c-48,Yo⟩;rw[show d+48-48=d by omega] at HNX;clear ec;go_wp2_with fail
   go_roundg (n-(k+1))
   case measure=>omega
   case rel=>
    refine⟨k+1,rfl,Yo,by go_num,?_,rfl⟩;rw[aA HNX]
    congr 1
    split<;>omega
  .obtain rfl:k=n:=Yo;have hki:¬(k:Int)<(k:Int):=Yo;go_wp2_with fail
   go_ret
   refine⟨?_,rfl⟩;rw[<-aA EV,List.take_of_length_le (by rw[aA EN];exact Xr _)];rfl
theorem SL(l:List UInt8)(hl:l.length<=9223372036854775807)(w:World):Calls Tryz.prog 201 #[.string ⟨l.toArray⟩] w λe w'=>e=.returned (.bool (lU l&&(l==[48]||l.head? !=some 48)))/\w'=w:=by
 have HL:=aB hl;have hS:=oI l
 cases hdg:lU l
 .go_enter Tryz.func201,Tryz.ntmps201
  go_wp2_with fail
  refine (vM l (aA HL) _).mono ?_;rintro e w1 ⟨rfl,rfl⟩;rw[hdg];go_wp2_with fail
  go_ret
  exact⟨rfl,rfl⟩
 .have HDG:=aB hdg;obtain⟨c,t,rfl⟩:∃c t,l=c::t:=by
   cases l with
   |nil=>cases hdg
   |cons c t=>exact⟨c,t,rfl⟩
  have hix:∀wx:World,(Instr.index 9 (.string ⟨(c::t).toArray⟩) (.int .i64 0)).run Tryz.prog wx=.ok (.int .u8 (c.toNat:Int)) wx:=λwx=>PP (c::t) 0 (by simp) wx
  have hisd:=λwx=>vM (c::t) (aA HL) wx
  rw[hdg] at hisd;have hlist:(⟨(c::t).toArray⟩:ByteArray).toList=c::t:=by rw[Lib.toList_data]
  obtain⟨S,eS⟩:∃S:ByteArray,(⟨(c::t).toArray⟩:ByteArray)=S:=⟨_,rfl⟩;rw[eS] at hS hix hisd hlist ⊢;obtain⟨cn,ecn⟩:∃cn:Nat,c.toNat=cn:=⟨_,rfl⟩;rw[ecn] at hix;have HISD:=aB hisd;have EHD:=aB (show ((cn:Int)!=48)=((c::t).head? !=some 48) from by
   rw[<-ecn];show ((c.toNat:Int)!=48)=(some c !=some 48)
   by_cases h:c=48
   .subst h;rfl
   .have h2:c.toNat≠48:=λe=>h (UInt8.toNat_inj.1 e)
    have e1:((c.toNat:Int)!=48)=true:=by simp;omega
    have e2:(some c !=some 48)=true:=by simp[h]
    rw[e1,e2])
  have hlen:S.size=t.length+1:=hS;obtain⟨tl,etl⟩:∃tl,t.length=tl:=⟨_,rfl⟩;rw[etl] at hlen;clear hdg hisd hS ecn eS etl
  cases hq:(c::t==[48])
  .have hb:(S.toList==[48])=false:=by rw[hlist];exact hq
   have HQ:=aB hq;clear hlist hq;go_enter Tryz.func201,Tryz.ntmps201
   go_wp2_with fail
   refine (aA HISD _).mono ?_;rintro e w1 ⟨rfl,rfl⟩;go_wp2_with fail
   go_ret
   refine⟨?_,rfl⟩;rw[<-aA EHD];rfl
  .have hb:(S.toList==[48])=true:=by rw[hlist];exact hq
   have HQ:=aB hq;clear hlist hq;go_enter Tryz.func201,Tryz.ntmps201
   go_wp2_with fail
   refine (aA HISD _).mono ?_;rintro e w1 ⟨rfl,rfl⟩;go_wp2_with fail
   go_ret
   exact⟨rfl,rfl⟩
structure Dg (w:World) (g n:Nat) (d:Nat->Nat):Prop where
 cell:∀j,j<n->w.cell? ⟨g,j,none⟩=some (.int .u8 ((48+d j:Nat):Int))
 free:∀j,j<n->w.frozen? ⟨g,j,none⟩=false
 dig:∀j,d j<10
def D7(d:Nat->Nat)(k x:Nat):Nat->Nat:=λj=>if j=k then x else d j
theorem KD(d:Nat->Nat)(k x:Nat):D7 d k x k=x:=if_pos rfl
theorem D8(d:Nat->Nat){j:Nat}(x:Nat)(h:j≠k):D7 d k x j=d j:=if_neg h
variable{d:Nat->Nat}{n:Nat}
theorem Dg.set{w:World}{g:Nat}(h:Dg w g n d)(hk:k<n){x:Nat}(hx:x<10):Dg (w.setCell ⟨g,k,none⟩ (.int .u8 ((48+x:Nat):Int))) g n (D7 d k x):=by
 refine⟨λj hj=>?_,λj hj=>?_,λj=>?_⟩
 .by_cases e:j=k
  .subst e;rw[KD];exact World.cell?_setCell_same _ _ _ (h.cell j hj)
  .rw[D8 _ _ e,World.cell?_setCell_other _ _ _ _ (by intro e2;cases e2;exact e rfl)];exact h.cell j hj
 .rw[World.frozen?_setCell];exact h.free j hj
 .unfold D7;split
  .exact hx
  .exact h.dig j
def gB(d:Nat->Nat)(n:Nat):Nat->Nat
 |0=>0
 |k+1=>gB d n k+d (n-1-k)*10^k
theorem zM{e:Nat->Nat}:∀{k:Nat},k<=n->(∀j,n-k<=j->j<n->d j=e j)->gB d n k=gB e n k
 |0,_,_=>rfl
 |k+1,hk,h=>by
  unfold gB;rw[zM Yo (λj h1 h2=>h j Yo h2),h (n-1-k) Yo Yo]
theorem U9(h:∀j,d j<10)(k:Nat):gB d n k<10^k:=by
 induction k with
 |zero=>show 0<1;decide
 |succ k ih=>
  show gB d n k+d (n-1-k)*10^k<_
  have h1:=h (n-1-k);have h2:=Nat.mul_le_mul_right (10^k) (show d (n-1-k)<=9 by omega);rw[Nat.pow_succ];omega
theorem aDM{e:Nat->Nat}{c x:Nat}(hk:k<n)(h:gB e n k+c*10^k=2*gB d n k)(hx:d (n-1-k)=x):gB (D7 e (n-1-k) ((2*x+c)%10)) n (k+1)+(2*x+c)/10*10^(k+1)=2*gB d n (k+1):=by
 show gB (D7 e (n-1-k) ((2*x+c)%10)) n k+D7 e (n-1-k) ((2*x+c)%10) (n-1-k)*10^k+_=2*(gB d n k+d (n-1-k)*10^k)
 rw[KD,zM (e:=e) Yo (λj h1 h2=>D8 _ _ Yo),hx,Nat.pow_succ];have e1:(2*x+c)%10*10^k+(2*x+c)/10*(10^k*10)=(2*x+c)*10^k:=by
  rw[Nat.mul_comm (10^k) 10, <-Nat.mul_assoc, <-Nat.add_mul]
  congr 1
  omega
 have e2:(2*x+c)*10^k=2*(x*10^k)+c*10^k:=by rw[Nat.add_mul,Nat.mul_assoc]
 omega
theorem CU(bd gd n cv:Nat)(d:Nat->Nat)(w:World)(hn:n<=60)(hc:w.cell? ⟨bd,0,none⟩=some (.slice (some ⟨gd,0,none⟩) n cv))(hne:bd≠gd)(hd:Dg w gd n d):Calls Tryz.prog 233 #[.pointer (some ⟨bd,0,none⟩)] w λe w'=>∃(c:Nat) (d':Nat->Nat),e=.returned (.int .u64 (c:Int))/\c<=1/\Dg w' gd n d'/\gB d' n n+c*10^n=2*gB d n n/\(∀a:Addr,a.block≠gd->w'.cell? a=w.cell? a)/\(∀B,B<=gd->B<=w.heap.size->Below B w w'):=by
 have HC:=aB hc;have HD:=aB hd;clear hd;go_enter Tryz.func233,Tryz.ntmps233
 go_wp2_with fail
 clear hc
 go_loopg [2,3,4] n (λgk cs is _ wx=>∃(c:Nat) (e:Nat->Nat),cs=.int .u8 (c:Int)/\is=.int .i64 ((gk:Int)-1)/\gk<=n/\c<=1/\Dg wx gd n e/\gB e n (n-gk)+c*10^(n-gk)=2*gB d n (n-gk)/\(∀j,j<gk->e j=d j)/\(∀a:Addr,a.block≠gd->wx.cell? a=w.cell? a)/\(∀B,B<=gd->B<=w.heap.size->Below B w wx))
 case atStart=>exact⟨0,d,rfl,rfl,Xr _,by decide,aA HD,by rw[Nat.sub_self];rfl,λ_ _=>rfl,λ_ _=>rfl,λB _ _=>Below.refl _ _⟩
 case round=>
  obtain⟨c,e,rfl,rfl,hgk,hc1,hDe,hv,hsame,hcell,hbl⟩:=hrel;have HDE:=aB hDe;have HV:=aB hv;have HSM:=aB hsame;have HCL:=aB hcell;have HBL:=aB hbl;have hcd:=(hcell ⟨bd,0,none⟩ hne).trans (aA HC);clear hDe hv hsame hcell hbl;rcases Nat.eq_zero_or_pos gk with hz|hz
  .subst hz;go_wp2_with fail
   go_ret
   exact⟨c,e,rfl,hc1,aA HDE,by have:=aA HV;rw[Nat.sub_zero] at this;exact this,aA HCL,aA HBL⟩
  .obtain⟨j,rfl⟩:∃j,gk=j+1:=⟨gk-1,Yo⟩;rw[show (((j+1:Nat):Int)-1)=(j:Int) by omega];obtain⟨x,ex⟩:∃x,d j=x:=⟨_,rfl⟩;have ex2:e j=x:=by rw[aA HSM j Yo,ex]
   have hx:x<10:=by rw[<-ex2];exact (aA HDE).dig j
   have cx:=(aA HDE).cell j Yo;rw[ex2] at cx;have fx:=(aA HDE).free j Yo;have hidx:n-1-(n-(j+1))=j:=Yo;have HST:=aB (show gB (D7 e j ((2*x+c)%10)) n (n-j)+(2*x+c)/10*10^(n-j)=2*gB d n (n-j) from by
    have h:=aDM (n:=n) (k:=n-(j+1)) (x:=x) Yo (aA HV) (by rw[hidx];exact ex);rw[hidx,show n-(j+1)+1=n-j by omega] at h;exact h)
   have EX:=aB (And.intro ex ex2);obtain⟨D,eD⟩:∃D:Nat,2*x+c=D:=⟨_,rfl⟩;rw[eD] at HST;have eDi:2*(x:Int)+(c:Int)=(D:Int):=Yo;have tm:(D:Int).tmod 10=((D%10:Nat):Int):=by rw[Int.tmod_eq_emod_of_nonneg Yo];omega
   have td:(D:Int).tdiv 10=((D/10:Nat):Int):=by rw[Int.tdiv_eq_ediv_of_nonneg Yo];omega
   have hD:D<=19:=Yo;have ED:=aB eD;clear ex ex2 hidx eD;have ew:48+(2*(48+(x:Int)-48)+(c:Int))%10=((48+D%10:Nat):Int):=Yo;have EW:=aB ew;clear ew;go_wp2_with fail
   go_roundg j
   case measure=>omega
   case rel=>
    rw[aA EW];refine⟨D/10,D7 e j (D%10),by congr 1;omega,rfl,Yo,Yo,(aA HDE).set Yo Yo,aA HST,?_,?_,?_⟩
    .intro i hi;rw[D8 _ _ Yo];exact aA HSM i Yo
    .intro a ha;rw[World.cell?_setCell_other _ _ _ _ (by intro e2;subst e2;exact ha rfl)];exact aA HCL a ha
    .intro B h1 h2;exact (aA HBL B h1 h2).setCell h1 _
end Go.Proofs.YthimcecbgpamdaaGreatDoor
