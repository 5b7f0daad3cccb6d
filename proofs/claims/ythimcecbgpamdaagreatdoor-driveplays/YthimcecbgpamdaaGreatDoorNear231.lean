import Derived.Test.YthimcecbgpamdaaGreatDoorNear218
import Derived.WalkSmall
set_option maxHeartbeats 2000000
set_option maxRecDepth 100000
open Go.Proofs.YthimcecbgpamdaaGreatDoor renaming aA->C,hide->G,Yo->O,Qv->R,qa->Y,jM->Z,decV->γ,rowV->ξ,wholeV->ο,TextOf->π
open _root_ renaming List->E,rfl->M,ByteArray->g,absurd->ζ,if_pos->η,Option->θ,if_neg->ι
open Option renaming some->J
open Go.Obj renaming cells->U
open Go.Proofs.Tryz renaming prog->y
open Go.Value renaming slice->β,int->ε,bool->μ
open Go renaming Calls->δ,World->κ
open Go.Ending renaming returned->ν
namespace Go.Proofs.YthimcecbgpamdaaGreatDoor
open Go.RowKit Go.Lib
def qZ(l:E UInt8)(j:Nat):Nat:=(l.getD j 48).toNat-48
variable{l:E UInt8}
theorem CK(h:l.all qA=true)(j):qZ l j<10:=by
 unfold qZ;rw[Bh];rcases Ar j l.length with hj|hj
 .rw[Bf hj];have:=(xN l[j]).1 (Cj.1 h _ (Dj hj));show (l[j]).toNat-48<10;omega
 rw[Dh hj];show (48:UInt8).toNat-48<10;decide
theorem QX(d:Nat->Nat)(n:Nat):∀k,k<=n->Z d (n+1) (k+1)=d n+10*Z d n k
 |0,_=>by show 0+d (n+1-1-0)*10^0=d n+10*0;rw[show n+1-1-0=n by omega,He];omega
 |k+1,hk=>by show Z d (n+1) (k+1)+d (n+1-1-(k+1))*10^(k+1)=d n+10*(Z d n k+d (n-1-k)*10^k);rw[QX d n k O,show n+1-1-(k+1)=n-1-k by omega,Cg,Nat.mul_add, <-Cu,Dk (d (n-1-k)*10^k) 10];omega
theorem MW:∀l,γ l=Z (qZ l) l.length l.length:=by
 intro l
 suffices h:∀(n:Nat) (l:E UInt8),l.length=n->γ l=Z (qZ l) n n from h l.length l rfl
 intro n;induction n with
 |zero=>intro l hl;rw[List.length_eq_zero_iff.1 hl];rfl
 |succ n ih=>
  intro l hl;obtain⟨m,c,rfl⟩:∃m c,l=m++[c]:=⟨l.dropLast,l.getLast (by intro e;rw[e] at hl;cases hl),(List.dropLast_concat_getLast _).symm⟩;have hm:m.length=n:=by rw[Ag] at hl;simp at hl;exact hl
  rw[GQ,QX _ _ _ (Xr _),ih m hm];have e1:qZ (m++[c]) n=c.toNat-48:=by unfold qZ;rw[Bh, <-hm,Hr (Xr _),Gh];rfl
  have e2:Z (qZ (m++[c])) n n=Z (qZ m) n n:=CX (Xr _) (λj _ hj=>by unfold qZ;rw[Bh,Bh,Fs O]);rw[e1,e2];omega
variable{d:Nat->Nat}{n:Nat}
theorem JA:∀{k:Nat},Z d n k=0↔∀j,j<k->d (n-1-j)=0
 |0=>⟨λ_ j hj=>ζ hj O,λ_=>rfl⟩
 |k+1=>by
  have hp:0<10^k:=Nat.pow_pos Yc;show Z d n k+d (n-1-k)*10^k=0↔_;constructor
  .intro h j hj;rcases Ar j k with h1|h1
   .exact (JA (k:=k)).1 O j h1
   obtain rfl:j=k:=O;have:d (n-1-j)*10^j=0:=O;rcases Nat.mul_eq_zero.1 this with h2|h2
   .exact h2
   omega
  intro h;rw[(JA (k:=k)).2 (λj hj=>h j O),h k O,Gn]
def qY(d:Nat->Nat)(n:Nat):E UInt8:=(List.range n).map λj=>UInt8.ofNat (48+d j)
theorem uS(d:Nat->Nat)(n):(qY d n).length=n:=by unfold qY;rw[Ao,Ck]
variable{j:Nat}
theorem UH(h:∀j,d j<10)hj:((qY d n)[j]).toNat=48+d j:=by
 have e:(qY d n)[j]'hj=UInt8.ofNat (48+d j):=by simp[qY]
 rw[e,UInt8.toNat_ofNat'];have:=h j;omega
theorem yY{α:Type}{p:α->Bool}:∀{l:E α},l.dropWhile p=[]↔∀x∈l,p x=true
 |[]=>by simp
 |a::l=>by
  rw[List.dropWhile_cons];split
  .rename_i h;rw[yY];simp[h]
  rename_i h;simp[h]
theorem aMf(l):Lib.trimB l 48=[]↔∀x∈l,x=48:=by
 unfold Lib.trimB Lib.trimLeftB Lib.trimRightB;rw[yY];constructor
 .intro h x hx;have hr:(l.reverse.dropWhile (· ==48))=[]:=by
   rcases Classical.em (l.reverse.dropWhile (· ==(48:UInt8))=[]) with h1|h1
   .exact h1
   exfalso;obtain⟨a,t,e⟩:=List.exists_cons_of_ne_nil h1;have h2:=List.head_dropWhile_not (λx:UInt8=>x==48) (l:=l.reverse) h1;have h3:a=48:=by have:=h a (by rw[e];simp);simpa using this
   have h4:(l.reverse.dropWhile (λx:UInt8=>x==48)).head h1=a:=by simp[e]
   rw[h4,h3] at h2;simp at h2
  have:=(yY).1 hr x (by rw[List.mem_reverse];exact hx);simpa using this
 intro h x hx;have h1:x∈l:=by rw[List.mem_reverse] at hx;have:=List.dropWhile_subset (p:=(· ==(48:UInt8))) (l:=l.reverse) hx;rw[List.mem_reverse] at this;exact this
 simp[h x h1]
theorem aDB(h:∀j,d j<10):(Lib.trimB (qY d n) 48=[])↔Z d n n=0:=by
 rw[aMf,JA];constructor
 .intro h1 j hj;have h2:n-1-j<(qY d n).length:=by rw[uS];omega
  have h3:=h1 _ (Dj h2);have h4:=UH h h2;rw[h3] at h4;have e:(48:UInt8).toNat=48:=rfl;omega
 intro h1 x hx;obtain⟨j,hj,rfl⟩:=Iy.1 hx;have hj':=hj;rw[uS] at hj';have h3:=h1 (n-1-j) O;rw[show n-1-(n-1-j)=j by omega] at h3;apply Fx.1;rw[UH h hj,h3];rfl
theorem WR{F T t N D c D'}(hT:0<T)(hN:N=F*2^t/T)(hD:D=F*2^t%T)(h:D'+c*T=2*D)(hD':D'<T):N*2+c=F*2^(t+1)/T/\D'=F*2^(t+1)%T:=by
 have e:F*2^(t+1)=D'+T*(N*2+c):=by rw[Cg, <-Cu];have h1:=Nat.div_add_mod (F*2^t) T;rw[<-hN, <-hD] at h1;rw[<-h1,iN,Nat.mul_add,Dk T c, <-Cu];omega
 constructor
 .rw[e,Nat.add_mul_div_left _ _ hT,Gu hD',Ah]
 rw[e,Nat.add_mul_mod_self_left,Ht hD']
def fracV(l:E UInt8)(neg:Bool):Nat:=γ l*2^32/10^l.length+(if neg=true/\γ l*2^33%10^l.length=0 then 0 else γ l*2^33/10^l.length-2*(γ l*2^32/10^l.length))
theorem aSg(N c:Nat)(hN:N<4611686018427387904)(hc:c<=1):bits .or .u64 (N*2) c=((N*2+c:Nat)):=by
 have h:=bits_or_u64_nat (N*2) c O O;have e:N*2 ||| c=N*2+c:=by have:=Nat.shiftLeft_add_eq_or_of_lt (i:=1) (b:=c) O N;rw[Nat.shiftLeft_eq,Nat.pow_one] at this;exact this.symm
 rw[e] at h;exact h
theorem ZZ(w)(o):Below w.heap.size w (w.alloc o):=(Af _ _).alloc (Xr _) _
theorem OH(l)(neg)(hl:l.length<=60)(hd:l.all qA=true)(w):δ y 205 #[.string ⟨l.toArray⟩,.bool neg] w λe w'=>e=.returned (.int .u64 (fracV l neg))/\Below w.heap.size w w':=by
 have hS:=sG l;obtain⟨n,en⟩:∃n,l.length=n:=⟨_,rfl⟩;rw[en] at hS hl;have hcv:=λwx=>run_bytes_of_string (P:=y) wx 9 65 5 ⟨l.toArray⟩ Ev Cz Hq;rw[hS] at hcv;obtain⟨F,eF⟩:∃F,γ l=F:=⟨_,rfl⟩;obtain⟨T,eT⟩:∃T,10^n=T:=⟨_,rfl⟩;have hT:0<T:=by rw[<-eT];exact Nat.pow_pos Yc
 have FV:=G (show fracV l neg=F*2^32/T+(if neg=true/\F*2^33%T=0 then 0 else F*2^33/T-2*(F*2^32/T)) from by unfold fracV;rw[en,eF,eT]);have hF0:Z (qZ l) n n=F:=by rw[<-eF,MW l,en]
 have hFT:F<T:=by rw[<-hF0, <-eT];exact BD (CK hd) n
 obtain⟨cap,ecap⟩:∃cap,grownCap w n 0 5=cap:=⟨_,rfl⟩;obtain⟨cells,ecl⟩:∃cells,bytesRow ⟨l.toArray⟩ cap=cells:=⟨_,rfl⟩;have hcell:∀j,j<n->cells[j]?=J (ε .u8 ((48+qZ l j:Nat):Int)):=by
  intro j hj;rw[<-ecl];unfold bytesRow;have hj2:j<l.length:=O;rw[Array.getElem?_append_left (by simp;omega)];have h1:=(xN l[j]).1 (Cj.1 hd _ (Dj hj2));have h2:48+qZ l j=(l[j]).toNat:=by unfold qZ;rw[Bh,Bf hj2];show 48+((l[j]).toNat-48)=_;omega
  rw[h2];simp[hj2]
 have hcsz:n<=cells.size:=by rw[<-ecl];unfold bytesRow;simp;omega
 have hcv0:(convert 9 65 (.string ⟨l.toArray⟩)).run y w=.ok (β (J ⟨w.heap.size,0,none⟩) n cap) (w.drew.alloc (U cells 5 (cells.size,cells.size+1))):=by rw[hcv w,ecap,ecl]
 have DG0:=G (show Dg (((w.alloc (U cells 5 (cells.size,cells.size+1))).alloc (U #[β (J ⟨w.heap.size,0,none⟩) n cap] 65)).drew) w.heap.size n (qZ l) from by
  refine⟨λj hj=>?_,λj hj=>?_,CK hd⟩
  .show ((w.alloc (U cells 5 (cells.size,cells.size+1))).alloc (U #[β (J ⟨w.heap.size,0,none⟩) n cap] 65)).cell? ⟨w.heap.size,j,none⟩=_;rw[World.cell?_alloc_old _ _ _ (by simp)];have:(w.alloc (U cells 5 (cells.size,cells.size+1))).cell? ⟨w.heap.size,j,none⟩=cells[j]?:=by
    have e1:(w.alloc (U cells 5 (cells.size,cells.size+1))).heap[w.heap.size]?=J (U cells 5 (cells.size,cells.size+1)):=by show (w.heap.push _)[w.heap.size]?=_;rw[Bt]
    unfold World.cell?;simp only[e1];rfl
   rw[this];exact hcell j hj
  show ((w.alloc (U cells 5 (cells.size,cells.size+1))).alloc (U #[β (J ⟨w.heap.size,0,none⟩) n cap] 65)).frozen? ⟨w.heap.size,j,none⟩=false;have e1:((w.alloc (U cells 5 (cells.size,cells.size+1))).alloc (U #[β (J ⟨w.heap.size,0,none⟩) n cap] 65)).heap[w.heap.size]?=J (U cells 5 (cells.size,cells.size+1)):=by show ((w.heap.push _).push _)[w.heap.size]?=_;rw[Array.getElem?_push,ι (by simp),Bt]
  unfold World.frozen?;rw[e1];simp;omega)
 have CB0:=G (show (((w.alloc (U cells 5 (cells.size,cells.size+1))).alloc (U #[β (J ⟨w.heap.size,0,none⟩) n cap] 65)).drew).cell? ⟨w.heap.size+1,0,none⟩=J (β (J ⟨w.heap.size,0,none⟩) n cap) from by
  have h:=World.cell?_alloc_new (w.alloc (U cells 5 (cells.size,cells.size+1))) #[β (J ⟨w.heap.size,0,none⟩) n cap] 65 0;have e:(w.alloc (U cells 5 (cells.size,cells.size+1))).heap.size=w.heap.size+1:=by simp
  rw[e] at h;exact h)
 have BL0:=G (show Below w.heap.size w (((w.alloc (U cells 5 (cells.size,cells.size+1))).alloc (U #[β (J ⟨w.heap.size,0,none⟩) n cap] 65)).drew) from
  ((ZZ w _).alloc (by simp) _).drew)
 have SZ0:=G (show w.heap.size+1<(((w.alloc (U cells 5 (cells.size,cells.size+1))).alloc (U #[β (J ⟨w.heap.size,0,none⟩) n cap] 65)).drew).heap.size from by show w.heap.size+1<((w.alloc (U cells 5 (cells.size,cells.size+1))).alloc (U #[β (J ⟨w.heap.size,0,none⟩) n cap] 65)).heap.size;simp);obtain⟨S,eS⟩:∃S:g,(⟨l.toArray⟩:g)=S:=⟨_,rfl⟩;rw[eS] at hS hcv0 ⊢;have HF0:=G hF0;have ET:=G eT;clear en eS hd hcv ecap ecl hcell hcsz eF eT hF0;go_in;go_wp2_with fail;go_loopg [7,13] 32 (λgk ns ks wx=>∃(t N:Nat) (e:Nat->Nat),gk=32-t/\t<=32/\ks=ε .i64 (t:Int)/\ns=ε .u64 (N:Int)/\N=F*2^t/T/\Dg wx w.heap.size n e/\Z e n n=F*2^t%T/\wx.cell? ⟨w.heap.size+1,0,none⟩=J (β (J ⟨w.heap.size,0,none⟩) n cap)/\w.heap.size+1<wx.heap.size/\Below w.heap.size w wx);case atStart=>exact⟨0,0,qZ l,rfl,Xz _,rfl,rfl,by rw[He,Cs,Gu hFT],C DG0,by rw[He,Cs,Ht hFT];exact C HF0,C CB0,C SZ0,C BL0⟩
 case round=>
  obtain⟨t,N,e,rfl,ht,rfl,rfl,hN,hDg,hlow,hcb,hsz,hbl⟩:=hrel;have hNb:N<4611686018427387904:=by
   have h1:F*2^t/T<2^t:=by rw[Ia hT,Dk];exact Nat.mul_lt_mul_of_pos_left hFT (Nat.pow_pos Yc)
   have h2:2^t<=2^32:=Ej Yc ht;have e3:(2:Nat)^32=4294967296:=by decide
   rw[<-hN] at h1;omega
  have HN:=G hN;have HDG:=G hDg;have HLOW:=G hlow;have HCB:=G hcb;have HSZ:=G hsz;have HBL:=G hbl;clear hN hDg hlow hcb hsz hbl;by_cases h32:t<32
  .have hti:(t:Int)<32:=O;go_wp2_with fail;refine (PW (w.heap.size+1) w.heap.size n cap e wr hl (C HCB) O (C HDG)).mono ?_;rintro _ w1 ⟨c,e',rfl,hc1,d1,d2,d3,d4⟩;have hs:=WR hT (C HN) (C HLOW) (D':=Z e' n n) (c:=c) (by rw[<-C ET];exact d2) (by rw[<-C ET];exact BD d1.dig n);have eo:=aSg N c hNb hc1;have D1:=G d1;have HS:=G hs;have CB1:=G ((d3 ⟨w.heap.size+1,0,none⟩ (by simp)).trans (C HCB));have dB:=d4 w.heap.size (Xr _) (C HBL).size;have BL1:=G ((C HBL).trans dB);have SZ1:=G (Dz (C HSZ) dB.size);clear d1 d2 d3 d4 hs dB;go_wp2_with fail;go_roundg (32-(t+1));case measure=>omega
   case rel=>exact⟨t+1,N*2+c,e',rfl,O,by go_num,by go_num,(C HS).1,C D1,(C HS).2,C CB1,C SZ1,C BL1⟩
  .obtain rfl:t=32:=O;go_wp2_with fail;refine (PW (w.heap.size+1) w.heap.size n cap e wr hl (C HCB) O (C HDG)).mono ?_;rintro _ w1 ⟨c,e',rfl,hc1,d1,d2,d3,d4⟩;have hs:=WR hT (C HN) (C HLOW) (D':=Z e' n n) (c:=c) (by rw[<-C ET];exact d2) (by rw[<-C ET];exact BD d1.dig n);have HS:=G hs;have cb1:=(d3 ⟨w.heap.size+1,0,none⟩ (by simp)).trans (C HCB);have dB:=d4 w.heap.size (Xr _) (C HBL).size;have BL1:=G ((C HBL).trans dB);have hst:(convert 65 9 (β (J ⟨w.heap.size,0,none⟩) n cap)).run y w1=.ok (.string ⟨(qY e' n).toArray⟩) w1:=by
    have h:=run_convert_bytes_back (P:=y) w1 65 9 5 ⟨w.heap.size,0,none⟩ cap (qY e' n) Cz Hq Ev (λj hj=>by rw[UH d1.dig hj,Lib.add_plain,Ah];exact d1.cell j (by rw[uS] at hj;exact hj));rw[uS] at h;exact h
   have hemp:(⟨(Lib.trimB (qY e' n) 48).toArray⟩:g).toList.isEmpty=decide (Z e' n n=0):=by
    rw[Lib.toList_data];show (Lib.trimB (qY e' n) 48).isEmpty=_;have:=aDB (n:=n) d1.dig;by_cases h:Z e' n n=0
    .rw[Xt h,this.2 h];rfl
    rw[Xf h];cases h2:Lib.trimB (qY e' n) 48 with
    |nil=>exact ζ (this.1 h2) h
    |cons _ _=>rfl
   have hsz2:(⟨(qY e' n).toArray⟩:g).size<=9223372036854775807:=by rw[sG,uS];omega
   have htr:=λwx=>Tryz.strings_Trim_one ⟨(qY e' n).toArray⟩ 48 Yc wx hsz2;have etr:Lib.trimB (⟨(qY e' n).toArray⟩:g).data.toList 48=Lib.trimB (qY e' n) 48:=rfl;rw[etr] at htr;obtain⟨S2,eS2⟩:∃S2:g,(⟨(qY e' n).toArray⟩:g)=S2:=⟨_,rfl⟩;rw[eS2] at hst htr;obtain⟨S3,eS3⟩:∃S3:g,(⟨(Lib.trimB (qY e' n) 48).toArray⟩:g)=S3:=⟨_,rfl⟩;rw[eS3] at htr hemp;have HTR:=G htr;obtain⟨D,eD⟩:∃D,Z e' n n=D:=⟨_,rfl⟩;rw[eD] at hemp HS;have hcN:(N:Int)+(c:Int)<18446744073709551616:=O;clear d1 d2 d3 d4 hs dB htr etr eS2 eS3 hsz2 eD;go_wp2_with fail;refine (C HTR _).mono ?_;rintro _ w2 ⟨rfl,hw2⟩;have BL2:=G (show Below w.heap.size w w2 from by
    rcases hw2 with rfl|rfl
    .exact C BL1
    exact (C BL1).drew)
   have RES:=G (show fracV l neg=if neg=true/\D=0 then N else N+c from by
    have h1:=C HS;have h2:=C HN;rw[C FV, <-h2, <-h1.1, <-h1.2];split
    .omega
    omega)
   clear hw2 cb1 hst;cases neg
   .go_wp2_with fail;go_ret;refine⟨?_,C BL2⟩;rw[C RES,ι (by simp)];rfl
   by_cases hD0:D=0
   .rw[Xt hD0] at hemp;have RES2:=G (show fracV l true=N from by rw[C RES,η ⟨M,hD0⟩]);clear hD0;go_wp2_with fail;go_ret;refine⟨?_,C BL2⟩;rw[C RES2];rfl
   rw[Xf hD0] at hemp;have RES2:=G (show fracV l true=N+c from by rw[C RES,ι (λh=>hD0 h.2)]);clear hD0;go_wp2_with fail;go_ret;refine⟨?_,C BL2⟩;rw[C RES2];rfl
def P8(l:E UInt8):Bool:=lH l&&(l==[48]||l.head? !=J 48)
def sS(l:E UInt8):Bool:=Lib.hasPrefix l [45]
def kG(l:E UInt8):E UInt8×List UInt8×Bool:=Lib.cut (Lib.trimPrefix l [45]) [46]
def oJ(l:E UInt8):Bool:=P8 (kG l).1&&(!(kG l).2.2||lH (kG l).2.1)
def jP(l:E UInt8):Int:=cK (sS l) ((ο (kG l).1*4294967296+fracV (kG l).2.1 (sS l):Nat))
def jL(l:E UInt8):Int:=if 60<l.length then 0 else if oJ l=false then 0 else if fO (jP l) then 0 else gD (jP l)
def lV(l:E UInt8):Int:=if 60<l.length then 1 else if oJ l=false then 2 else if fO (jP l) then 3 else 0
theorem aKb(l)(neg)(h:l.all qA=true):fracV l neg<=4294967296:=by
 have hT:0<10^l.length:=Nat.pow_pos Yc;have hF:γ l<10^l.length:=by rw[MW];exact BD (CK h) _
 unfold fracV;obtain⟨T,eT⟩:∃T,10^l.length=T:=⟨_,rfl⟩;rw[eT] at hT hF ⊢;have h1:γ l*2^32/T<2^32:=by rw[Ia hT,Dk];exact Nat.mul_lt_mul_of_pos_left hF Yc
 have h2:γ l*2^33/T<2*(γ l*2^32/T)+2:=by
  rw[Ia hT];have h3:=Nat.div_add_mod (γ l*2^32) T;have h4:=qN (γ l*2^32) hT;have e:γ l*2^33=2*(γ l*2^32):=by rw[show (2:Nat)^33=2^32*2 by decide, <-Cu,Dk]
  rw[e,iN,Cu,Dk (γ l*2^32/T) T];omega
 have e32:(2:Nat)^32=4294967296:=by decide
 split<;>omega
theorem aIa(l:E UInt8)(w)(hl:60<l.length):δ y 140 #[.string ⟨l.toArray⟩] w λe w'=>e=.returned (.tuple #[.int .i64 0,.int .i64 1])/\w'=w:=by have hS:=sG l;obtain⟨n,en⟩:∃n,l.length=n:=⟨_,rfl⟩;rw[en] at hS hl;obtain⟨S,eS⟩:∃S:g,(⟨l.toArray⟩:g)=S:=⟨_,rfl⟩;rw[eS] at hS ⊢;have hi:(60:Int)<(n:Int):=O;clear en eS;go_in;go_wp2_with fail;go_ret2;exact⟨M,M⟩
theorem aFz(l)(mx)(w)(hl:l.length<=60)(hm:w.cell? ⟨1,0,none⟩=J (.int .i64 mx)):δ y 140 #[.string ⟨l.toArray⟩] w λe w'=>e=.returned (.tuple #[.int .i64 (jL l),.int .i64 (lV l)])/\Below w.heap.size w w':=by
 have hS:=sG l;have E1:=G (show jL l=if oJ l=false then 0 else if fO (jP l) then 0 else gD (jP l) from ι O);have E2:=G (show lV l=if oJ l=false then 2 else if fO (jP l) then 3 else 0 from ι O);have hcp:=λwx=>Tryz.strings_CutPrefix ⟨l.toArray⟩ ⟨#[45]⟩ wx;have hrl:(Lib.trimPrefix l [45]).length<=60:=Ap (Lib.trimPrefix_le l [45]) hl;have hct:=λwx h=>Tryz.strings_Cut ⟨(Lib.trimPrefix l [45]).toArray⟩ ⟨#[46]⟩ mx wx (by rw[sG];omega) h;obtain⟨wh,fr,pt,epp⟩:∃wh fr pt,kG l=(wh,fr,pt):=⟨_,_,_,rfl⟩;have hwl:wh.length<=60/\fr.length<=60/\(pt=false->fr=[]):=by
  unfold kG Lib.cut at epp;split at epp
  .cases epp;refine⟨?_,?_,λh=>by cases h⟩
   .rw[Ea];omega
   rw[List.length_drop];omega
  cases epp;exact⟨hrl,Xz _,λ_=>rfl⟩
 obtain⟨ng,eng⟩:∃ng,sS l=ng:=⟨_,rfl⟩;have hcp2:∀wx:κ,δ y 199 #[.string ⟨l.toArray⟩,.string ⟨#[45]⟩] wx λe w'=>e=ν (.tuple #[.string ⟨(Lib.trimPrefix l [45]).toArray⟩,μ ng])/\w'=wx:=by intro wx;rw[<-eng];exact hcp wx
 have hct2:∀wx:κ,wx.cell? ⟨1,0,none⟩=J (ε .i64 mx)->δ y 200 #[.string ⟨(Lib.trimPrefix l [45]).toArray⟩,.string ⟨#[46]⟩] wx λe w'=>e=ν (.tuple #[.string ⟨wh.toArray⟩,.string ⟨fr.toArray⟩,μ pt])/\∃n,w'=wx.drewN n:=by intro wx h;have h1:=hct wx h;have e1:Lib.cut (⟨(Lib.trimPrefix l [45]).toArray⟩:g).data.toList (⟨#[46]⟩:g).data.toList=(wh,fr,pt):=epp;rw[e1] at h1;exact h1
 obtain⟨hw1,hf1,hpt⟩:=hwl;have HFB:=G (show oJ l=(P8 wh&&(!pt||lH fr)) from by unfold oJ;rw[epp]);have HM:=G (show jP l=cK ng ((ο wh*4294967296+fracV fr ng:Nat):Int) from by unfold jP;rw[epp,eng]);have HCP:=G hcp2;have HCT:=G hct2;have HM0:=G hm;have HPT:=G hpt;have HIW:=G (λwx=>aDe wh O wx);have HID:=G (λwx=>I6 fr O wx);obtain⟨n,en⟩:∃n,l.length=n:=⟨_,rfl⟩;rw[en] at hS hl;have hli:(n:Int)<=60:=O;obtain⟨R0,eR0⟩:∃R0:g,(⟨(Lib.trimPrefix l [45]).toArray⟩:g)=R0:=⟨_,rfl⟩;rw[eR0] at HCP HCT;obtain⟨S,eS⟩:∃S:g,(⟨l.toArray⟩:g)=S:=⟨_,rfl⟩;rw[eS] at hS HCP ⊢;clear en eS hcp hct hcp2 hct2 hm hpt epp eng eR0 hrl;have base:∀(Q:Prop),Q->Q:=λ_ h=>h;clear base;cases hwb:P8 wh
 .
  have EV:=G (show jL l=0/\lV l=2 from by
   have hf:oJ l=false:=by rw[C HFB,hwb];rfl
   rw[C E1,C E2,η hf,η hf];exact⟨M,M⟩)
  have hiw:∀wx:κ,δ y 201 #[.string ⟨wh.toArray⟩] wx λe w'=>e=ν (μ false)/\w'=wx:=by intro wx;rw[<-hwb];exact C HIW wx
  have HIW2:=G hiw;clear hiw hwb;go_in;go_wp2_with fail;refine (C HCP _).mono ?_;rintro e w1 ⟨rfl,rfl⟩;go_wp2_with fail;refine (C HCT _ (C HM0)).mono ?_;rintro e w2 ⟨rfl,k2,rfl⟩;go_wp2_with fail;refine (C HIW2 _).mono ?_;rintro e w3 ⟨rfl,rfl⟩;go_wp2_with fail;go_ret2;rw[(C EV).1,(C EV).2];exact⟨M,below_drewN (Af _ _) _⟩
 .have hwd:wh.all qA=true:=by unfold P8 lH at hwb;simp only[Br] at hwb;exact hwb.1.1
  have hiw:∀wx:κ,δ y 201 #[.string ⟨wh.toArray⟩] wx λe w'=>e=ν (μ true)/\w'=wx:=by intro wx;rw[<-hwb];exact C HIW wx
  have HIW2:=G hiw;have HRW:=G (λwx=>YS wh O hwd wx);clear hiw hwd;have tail : fr.all qA = true -> oJ l = true -> Hid (∀ wx : κ, Below w.heap.size w wx -> δ y 205 #[.string ⟨fr.toArray⟩, μ ng] wx λe w' => e = ν (ε .u64 (fracV fr ng : Int)) /\ Below w.heap.size w w') /\
    Hid (jL l=(if fO (jP l) then 0 else gD (jP l))/\lV l=(if fO (jP l) then 3 else 0))/\fracV fr ng<=4294967296:=by
   intro hfd hf;refine⟨?_,?_,aKb fr ng hfd⟩
   .intro wx hb;refine (OH fr ng hf1 hfd wx).mono ?_;rintro e w' ⟨h1,h2⟩;exact⟨h1,hb.trans (h2.mono hb.size)⟩
   .show _/\_;rw[C E1,C E2,hf];exact⟨M,M⟩
  cases pt
  .
   have hfr:=C HPT M;subst hfr;obtain⟨HRF,EV,hfle⟩:=tail rfl (by rw[C HFB,hwb];rfl);clear tail hwb;go_in;go_wp2_with fail;refine (C HCP _).mono ?_;rintro e w1 ⟨rfl,rfl⟩;go_wp2_with fail;refine (C HCT _ (C HM0)).mono ?_;rintro e w2 ⟨rfl,k2,rfl⟩;go_wp2_with fail;refine (C HIW2 _).mono ?_;rintro e w3 ⟨rfl,rfl⟩;go_wp2_with fail;refine (C HRW _).mono ?_;rintro e w4 ⟨rfl,rfl⟩;obtain⟨V,eV⟩:∃V,ο wh=V:=⟨_,rfl⟩;have hV:V<=2147483649:=by rw[<-eV];exact JY wh
   rw[eV] at HM ⊢;clear eV;go_wp2_with fail;refine (C HRF _ (below_drewN (Af _ _) k2)).mono ?_;rintro e w5 ⟨rfl,k5⟩;have K5:=G k5;obtain⟨f,ef⟩:∃f,fracV [] ng=f:=⟨_,rfl⟩;rw[ef] at HM hfle ⊢;have HM2:=G (show jP l=cK ng ((V:Int)*4294967296+(f:Int)) from by rw[C HM];congr 1);clear ef k5;go_wp2_with fail;refine (vP ng ((V:Int)*4294967296+(f:Int)) O O _).mono ?_;rintro e w6 ⟨rfl,rfl⟩;rw[<-C HM2];cases hb:fO (jP l)
   .have EV2:=G (show jL l=gD (jP l)/\lV l=0 from by have h:=C EV;rw[hb] at h;exact h);clear hb;obtain⟨z,ez⟩:∃z,gD (jP l)=z:=⟨_,rfl⟩;rw[ez] at EV2 ⊢;clear ez;go_wp2_with fail;go_ret2;rw[(C EV2).1,(C EV2).2];exact⟨M,C K5⟩
   .have EV2:=G (show jL l=0/\lV l=3 from by have h:=C EV;rw[hb] at h;exact h);clear hb;obtain⟨z,ez⟩:∃z,gD (jP l)=z:=⟨_,rfl⟩;rw[ez];clear ez;go_wp2_with fail;go_ret2;rw[(C EV2).1,(C EV2).2];exact⟨M,C K5⟩
  .
   cases hfb:lH fr
   .have EV:=G (show jL l=0/\lV l=2 from by
     have hf:oJ l=false:=by rw[C HFB,hwb,hfb];rfl
     rw[C E1,C E2,η hf,η hf];exact⟨M,M⟩)
    have hid:∀wx:κ,δ y 202 #[.string ⟨fr.toArray⟩] wx λe w'=>e=ν (μ false)/\w'=wx:=by intro wx;rw[<-hfb];exact C HID wx
    have HID2:=G hid;clear hid hwb hfb tail;go_in;go_wp2_with fail;refine (C HCP _).mono ?_;rintro e w1 ⟨rfl,rfl⟩;go_wp2_with fail;refine (C HCT _ (C HM0)).mono ?_;rintro e w2 ⟨rfl,k2,rfl⟩;go_wp2_with fail;refine (C HIW2 _).mono ?_;rintro e w3 ⟨rfl,rfl⟩;go_wp2_with fail;refine (C HID2 _).mono ?_;rintro e w4 ⟨rfl,rfl⟩;go_wp2_with fail;go_ret2;rw[(C EV).1,(C EV).2];exact⟨M,below_drewN (Af _ _) _⟩
   .have hid:∀wx:κ,δ y 202 #[.string ⟨fr.toArray⟩] wx λe w'=>e=ν (μ true)/\w'=wx:=by intro wx;rw[<-hfb];exact C HID wx
    have HID2:=G hid;obtain⟨HRF,EV,hfle⟩:=tail (by unfold lH at hfb;simp only[Br] at hfb;exact hfb.1) (by rw[C HFB,hwb,hfb];rfl);clear hid tail hwb hfb;go_in;go_wp2_with fail;refine (C HCP _).mono ?_;rintro e w1 ⟨rfl,rfl⟩;go_wp2_with fail;refine (C HCT _ (C HM0)).mono ?_;rintro e w2 ⟨rfl,k2,rfl⟩;go_wp2_with fail;refine (C HIW2 _).mono ?_;rintro e w3 ⟨rfl,rfl⟩;go_wp2_with fail;refine (C HID2 _).mono ?_;rintro e w3 ⟨rfl,rfl⟩;go_wp2_with fail;refine (C HRW _).mono ?_;rintro e w4 ⟨rfl,rfl⟩;obtain⟨V,eV⟩:∃V,ο wh=V:=⟨_,rfl⟩;have hV:V<=2147483649:=by rw[<-eV];exact JY wh
    rw[eV] at HM ⊢;clear eV;go_wp2_with fail;refine (C HRF _ (below_drewN (Af _ _) k2)).mono ?_;rintro e w5 ⟨rfl,k5⟩;have K5:=G k5;obtain⟨f,ef⟩:∃f,fracV fr ng=f:=⟨_,rfl⟩;rw[ef] at HM hfle ⊢;have HM2:=G (show jP l=cK ng ((V:Int)*4294967296+(f:Int)) from by rw[C HM];congr 1);clear ef k5;go_wp2_with fail;refine (vP ng ((V:Int)*4294967296+(f:Int)) O O _).mono ?_;rintro e w6 ⟨rfl,rfl⟩;rw[<-C HM2];cases hb:fO (jP l)
    .have EV2:=G (show jL l=gD (jP l)/\lV l=0 from by have h:=C EV;rw[hb] at h;exact h);clear hb;obtain⟨z,ez⟩:∃z,gD (jP l)=z:=⟨_,rfl⟩;rw[ez] at EV2 ⊢;clear ez;go_wp2_with fail;go_ret2;rw[(C EV2).1,(C EV2).2];exact⟨M,C K5⟩
    have EV2:=G (show jL l=0/\lV l=3 from by have h:=C EV;rw[hb] at h;exact h);clear hb;obtain⟨z,ez⟩:∃z,gD (jP l)=z:=⟨_,rfl⟩;rw[ez];clear ez;go_wp2_with fail;go_ret2;rw[(C EV2).1,(C EV2).2];exact⟨M,C K5⟩
theorem aHZ(l)(mx)(w)(hm:w.cell? ⟨1,0,none⟩=J (.int .i64 mx)):δ y 140 #[.string ⟨l.toArray⟩] w λe w'=>e=.returned (.tuple #[.int .i64 (jL l),.int .i64 (lV l)])/\Below w.heap.size w w':=by
 rcases Ar 60 l.length with h|h
 .refine (aIa l w h).mono ?_;rintro e w' ⟨rfl,rfl⟩;unfold jL lV;rw[η h,η h];exact⟨M,Af _ _⟩
 exact aFz l mx w h hm
def splC(c:UInt8):E UInt8->E (E UInt8)
 |[]=>[[]]
 |x::l=>if x=c then []::splC c l else match splC c l with
  |[]=>[[x]]
  |a::r=>(x::a)::r
theorem splC_ne(c)(l):splC c l≠[]:=by
 cases l with
 |nil=>exact λh=>nomatch h
 |cons x l=>
  unfold splC;split
  .exact λh=>nomatch h
  split<;>exact λh=>nomatch h
noncomputable def qK (a:Int):E UInt8:=rD a++(open Classical in if h:∃l,π (absZ a).toNat l then Classical.choose h else [])
theorem VW{a}(h:π (absZ a).toNat l):rD a++l=qK a:=by unfold qK;have h1:∃l,π (absZ a).toNat l:=⟨l,h⟩;rw[dif_pos h1];exact congrArg _ (h.one (Classical.choose_spec h1))
def jU(d:Nat):UInt8:=if d<10 then UInt8.ofNat (48+d) else UInt8.ofNat (87+d)
def oK(u:Nat):E UInt8:=if _h:u<16 then [jU u] else oK (u/16)++[jU (u%16)]
termination_by u
decreasing_by omega
noncomputable def A8 (n:Nd):Nat->E UInt8
 |0=>[]
 |a+1=>A8 n a++([32]++qK (n.us a)++[62]++qK (n.ax a).X)
def uZ(I:Nat->Bool):Nat->E UInt8
 |0=>[]
 |i+1=>uZ I i++(if I i then [] else [32,111,117,116]++itoa (i:Nat))
noncomputable def rpT (n:Nd):E UInt8:=
 [110,111,100,101,32]++itoa n.id++[32,102,114,97,109,101,32]++itoa n.fr++A8 n 3++[32]++oK n.dg.toNat++(if n.vS then [] else [32,119,101,97,107])++uZ n.rl.I 4++[10]
def numW(ws:E (E UInt8)):θ (E Int):=if ws.all (λw=>decide (lV w=0)) then J (ws.map jL) else none
def digW(w:E UInt8)(last:Nat):θ Nat:=match w with
 |[c]=>if 48<=c.toNat/\c.toNat<=48+last then J (c.toNat-48) else none
 |_=>none
structure Pl where
 c:Cl
 x:Ip
 o:E UInt8
def MV:Pl:=⟨begC ⟨4294967296,4294967296,4294967296,68719476736⟩,⟨λ_ _=>0, -1,[]⟩,[]⟩
def tunP(s:Pl)(ws:E (E UInt8)):θ Pl:=match numW ws with
 |some [a,b,c,d]=>J { s with c:=begC ⟨a,b,c,d⟩ }
 |_=>none
def rE(s:Pl):E (E UInt8)->θ Pl
 |k::ws=>match digW k 3,numW ws with
  |some i,J [a,b,c]=>J { s with x:={ s.x with rd:=λj q=>if j=i then gL [a,b,c] q else s.x.rd j q } }
  |_,_=>none
 |_=>none
def yU(s:Pl):E (E UInt8)->θ Pl
 |[k]=>(digW k 3).map λi=>{ s with x:={ s.x with bad:=(i:Nat) } }
 |_=>none
def NI(s:Pl):E (E UInt8)->θ Pl
 |[]=>J { s with x:={ s.x with bad:= -1,ly:=[] } }
 |_=>none
def sI(s:Pl):E (E UInt8)->θ Pl
 |p::t::k::ws=>if s.x.bad= -1\/400<=s.x.ly.length then none else match digW p 4,digW t 3,digW k 9,numW ws with
  |some p,J t,J k,J v=>if wrongM (k:Nat) s.x.bad s.c.fr v.length=0 then J { s with x:={ s.x with ly:=s.x.ly++[⟨(p:Nat),(t:Nat),12+8*v.length,enS (k:Nat) s.x.bad s.c.fr v.length (gL v)⟩] } } else none
  |_,_,_,_=>none
 |_=>none
noncomputable def vL (s:Pl):E (E UInt8)->θ Pl
 |[]=>if gY s.x s.c=0 then J ⟨lC s.x s.c,{ s.x with ly:=[] },s.o++(frR s.x s.c).flatMap rpT⟩ else none
 |_=>none
noncomputable def kS (s:Pl) (l:E UInt8):θ Pl:=
 if l=[] then J s else match splC 32 l with
 |[]=>none
 |k::ws=>if k=[116,117,110,101] then tunP s ws else if k=[114,101,97,100] then rE s ws else if k=[98,97,100] then yU s ws else if k=[103,111,111,100] then NI s ws else if k=[108,105,101] then sI s ws else if k=[102,114,97,109,101] then vL s ws else none
noncomputable def linS (s:Pl) (k:Nat) (l:E UInt8):Pl:=match kS s l with
 |some t=>t
 |none=>{ s with o:=s.o++([119,114,111,110,103,32]++itoa ((k+1:Nat):Int)++[10]) }
noncomputable def linK (L:E (E UInt8)):Nat->Pl
 |0=>MV
 |k+1=>linS (linK L k) k (L.getD k [])
noncomputable def uQ (l:E UInt8):E UInt8:=if 20000<l.length then [] else if 400<(splC 10 l).length then [] else (linK (splC 10 l) (splC 10 l).length).o
def wX(l:E UInt8):Int:=if 20000<l.length then 1 else if 400<(splC 10 l).length then 6 else 0
theorem MZ(c)(last):digW [c] last=if 48<=c.toNat/\c.toNat<=48+last then J (c.toNat-48) else none:=rfl
theorem uT(l)(last:Nat)(w):δ y 81 #[tV l,.int .i64 (last)] w λe w'=>∃n,e=.returned (.tuple #[.int .i64 n,.bool (digW l last).isSome])/\(∀i,digW l last=J i->n=(i))/\Below w.heap.size w w':=by
 refine bC Tryz.func81 M 22 M Yd (λA hs hd hb=>?_);have b0:A.eval (.tmp 0)=tV l:=hb 0 _ M;have b1:A.eval (.tmp 1)=ε .i64 (last:Nat):=hb 1 _ M;clear hb;have hz:(⟨l.toArray⟩:g).size=l.length:=by show l.toArray.size=_;rw[Co]
 refine aD (aG ?_);iterate 2 refine Y ?_
 refine aC<|aH<|aD<|qa ?_;refine qg (yR _ M R _) ?_;rw[hz];refine Y ?_;refine aC<|fB (λhc=>?_) (λhc=>?_)
 .have h1:l.length≠1:=by
   have:¬(l.length:Int)=1:=by simpa using hc
   omega
  have e:digW l last=none:=by
   unfold digW;split
   .exact ζ M h1
   rfl
  refine aD ?_;iterate 2 refine Y ?_
  refine aC ?_;exact aQ (fF (aN YB (iP M R R) ⟨0,by rw[e];rfl,λi h=>by rw[e] at h;exact ζ h (by simp),Af _ _⟩))
 have h1:l.length=1:=by
  have:(l.length:Int)=1:=by simpa using hc
  omega
 obtain⟨c,rfl⟩:∃c,l=[c]:=List.length_eq_one_iff.1 h1;have hc256:c.toNat<256:=UInt8.toNat_lt _;refine aR<|aD<|qa ?_;refine qg (lK (k:=0) (l:=[c]) _ _ M R R M Nat.one_pos _) ?_;refine qg (OM (u:=c.toNat) _ M R hc256 _) ?_;iterate 2 refine Y ?_
 refine aC<|aD ?_;iterate 2 refine Y ?_
 by_cases h48:48<=c.toNat
 .refine aUa ?_;iterate 3 refine Y ?_
  refine qg (O0 (b:=decide (c.toNat<=48+last)) _ _ M R R (Dc.2 O) _) ?_;refine aTZ ?_;iterate 2 refine Y ?_
  refine aC<|aQ (aN YB (iP rfl R R) ⟨(c.toNat:Int)-48,?_,λi h=>?_,Af _ _⟩)
  .have e:(digW [c] last).isSome=decide (c.toNat<=48+last):=by
    rw[MZ];by_cases h2:c.toNat<=48+last
    .rw[η ⟨h48,h2⟩,Xt h2];rfl
    rw[ι (λh=>h2 h.2),Xf h2];rfl
   rw[e]
  rw[MZ] at h;split at h
  .cases h;omega
  exact ζ h (by simp)
 refine aUb ?_;refine Y ?_;iterate 3 refine bP ?_
 refine aTY ?_;iterate 2 refine Y ?_
 refine aC ?_;have e:digW [c] last=none:=by rw[MZ,ι (λh=>h48 h.1)]
 exact aQ (aN YB (iP M R R) ⟨(c.toNat:Int)-48,by rw[e];rfl,λi h=>by rw[e] at h;exact ζ h (by simp),Af _ _⟩)
def xH(t:E UInt8):Nat->Value:=λ_=>tV t
def aFp(ws:E (E UInt8))(k:Nat):Prop:=∀j,j<k->∀t,ws[j]?=J t->lV t=0
variable{ws:E (E UInt8)}
theorem aBo(h:aFp ws ws.length):numW ws=J (ws.map jL):=by unfold numW;rw[η (Cj.2 λt ht=>?_)];obtain⟨j,hj⟩:=List.getElem?_of_mem ht;exact Xt (h j (Gi.1 hj).1 t hj)
theorem WV{t}(hj:ws[j]?=J t)(h:lV t≠0):numW ws=none:=by unfold numW;rw[ι (λe=>h (Xu (Cj.1 e t (List.mem_of_getElem? hj))))]
theorem vG(ws)(ao)(cap)(mx)(w)(hm:w.cell? ⟨1,0,none⟩=J (.int .i64 mx))(hr:RdS xH 1 w ao ws)(hl:ws.length<=1000000):δ y 80 #[.slice ao ws.length cap] w λe w'=>∃v,e=.returned (.tuple #[v,.bool (numW ws).isSome])/\(∀l,numW ws=J l->Cx w w' [fU w.heap.size 3 1 v l.length (ξ (iF (gL l)) l.length)])/\Below w.heap.size w w':=by
 refine bC Tryz.func80 M 28 M Yd (λA hs hd hb=>?_);have b0:A.eval (.tmp 0)=β ao ws.length cap:=hb 0 _ M;clear hb;have H:=Bl w;refine aD (aG ?_);iterate 2 refine Y ?_
 refine aC<|aD<|qa ?_;refine aC<|aH<|aD ?_;iterate 3 refine Y ?_
 refine aC<|aJ ?_;refine bR (λr A W=>∃(k:Nat) (v:Value),k<=ws.length/\ws.length-k<=r/\A.tmps.size=28/\A.defers=[]/\A.eval (.tmp 4)=v/\A.eval (.tmp 9)=β ao ws.length cap/\A.eval (.tmp 10)=ε .i64 (ws.length:Nat)/\A.eval (.tmp 11)=ε .i64 (k:Nat)/\aFp ws k/\Cx w W [fU w.heap.size 3 1 v k (ξ (iF (gL (ws.map jL))) k)]) ws.length
  ⟨0,β none 0 0,Xz _,O,YA,YB,R,R,R,R,λj h=>ζ h (Fv j),H.add (Af _ _) (fU w.heap.size 3 1 (β none 0 0) 0 _) (Am _ _ _ _) (λj e=>ζ e (λe=>nomatch e))⟩ (λr B W hI=>?_)
 clear b0 hs hd H;obtain⟨k,v,hk,hkr,hs,hd,b4,b9,b10,b11,hok,H⟩:=hI;refine aD (aG ?_);refine Y ?_;refine aC<|aH<|fB (λhc=>?_) (λhc=>?_)
 .have hin:k<ws.length:=by have:=Xu hc;omega
  obtain⟨b,o,rfl,hcell⟩:=hr O;have hcell:=hcell k ws[k] (Bf hin) 0 O;refine aR<|aH (aJ ?_);refine aD<|qg (dD (i:=k) _ _ _ _ rfl SlcK.out SizK.out R R rfl hin _) ?_;refine qg (gP (v:=tV ws[k]) OneK.out (aP hcell H.bel) M R) ?_;refine Y ?_;refine aC<|aD<|qa ?_;refine q_c (aHZ ws[k] mx W (aP hm H.bel)) ?_;rintro e w1 ⟨rfl,k1⟩;refine⟨_,M,?_⟩;replace H:=H.call k1;iterate 5 refine Y ?_
  refine aC<|aH<|aD ?_;iterate 2 refine Y ?_
  refine aC<|fB (λhe=>?_) (λhe=>?_)
  .have h0:lV ws[k]≠0:=by simpa using he
   have e0:=WV (Bf hin) h0;refine aD ?_;iterate 2 refine Y ?_
   refine aC ?_;exact aQ (fF (lQ (fF (DJ (lQ (fF (aN YB (iP M R R) ⟨_,by rw[e0];rfl,λl h=>by rw[e0] at h;exact ζ h (by simp),H.bel⟩)))))))
  have h0:lV ws[k]=0:=by simpa using he
  refine aR<|aI ?_;iterate 2 refine Y ?_
  refine bI M Yw (λK hK=>qM (v:=ε .i64 (jL ws[k])) SlcK.out OneK.out Zer1.out M M M R (λV1 m1 k2 z9=>hK _ _ ?_));replace H:=H.call k2;refine OE (bytes:=8) H.a0 (zT m1) (λu hu=>by rw[Ct.1 hu];rfl) Ym O ?_;clear H;intro v' w3 H;refine Y ?_;refine fK<|aI ?_;repeat refine Y ?_
  exact aU ⟨ws.length-(k+1),O,k+1,v',O,O,YA,YB,R,R,R,Ae R YC,λj hj t ht=>by
   by_cases e:j=k
   .rw[e,Bf hin] at ht;cases ht;exact h0
   .exact hok j O t ht,by
   have e1:ξ (iF (gL (ws.map jL))) k++[ε .i64 (jL ws[k])]=ξ (iF (gL (ws.map jL))) (k+1):=by unfold ξ;rw[Hw,Cb,List.map_singleton];congr 2;unfold iF gL;rw[Bh,Bu,Bf hin];rfl
   rw[<-e1];exact H⟩
 obtain rfl:k=ws.length:=by have:=Xg hc;omega
 refine bL (dQ ?_);refine aD ?_;iterate 3 refine Y ?_
 refine aC ?_;have e0:=aBo hok;exact aQ (aN YB (iP M R R) ⟨_,by rw[e0];rfl,λl h=>by rw[e0] at h;cases h;rw[Ao];exact H,H.bel⟩)
end Go.Proofs.YthimcecbgpamdaaGreatDoor
