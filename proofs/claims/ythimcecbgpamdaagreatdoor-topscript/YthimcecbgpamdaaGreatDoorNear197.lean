import Derived.Test.YthimcecbgpamdaaGreatDoorNear103
namespace Go.Proofs.YthimcecbgpamdaaGreatDoor
open Go.RowKit Go.Lib
def mR(l:List UInt8)(j:Nat):Nat:=(l.getD j 48).toNat-48
theorem AJ{l:List UInt8}(h:l.all mZ=true)(j:Nat):mR l j<10:=by
 unfold mR;rw[List.getD_eq_getElem?_getD];rcases Nat.lt_or_ge j l.length with hj|hj
 .rw[List.getElem?_eq_getElem hj];have:=(pW l[j]).1 (List.all_eq_true.1 h _ (List.getElem_mem hj));show (l[j]).toNat-48<10
  omega
 .rw[List.getElem?_eq_none hj];show (48:UInt8).toNat-48<10
  decide
theorem DK(d:Nat->Nat)(n:Nat):∀k,k<=n->gB d (n+1) (k+1)=d n+10*gB d n k
 |0,_=>by
  show 0+d (n+1-1-0)*10^0=d n+10*0
  rw[show n+1-1-0=n by omega,Nat.pow_zero];omega
 |k+1,hk=>by
  show gB d (n+1) (k+1)+d (n+1-1-(k+1))*10^(k+1)=d n+10*(gB d n k+d (n-1-k)*10^k)
  rw[DK d n k Yo,show n+1-1-(k+1)=n-1-k by omega,Nat.pow_succ,Nat.mul_add, <-Nat.mul_assoc,Nat.mul_comm (d (n-1-k)*10^k) 10];omega
theorem MQ:∀l:List UInt8,kN l=gB (mR l) l.length l.length:=by
 intro l
 suffices h:∀(n:Nat) (l:List UInt8),l.length=n->kN l=gB (mR l) n n from h l.length l rfl
 intro n
 induction n with
 |zero=>intro l hl;rw[List.length_eq_zero_iff.1 hl];rfl
 |succ n ih=>
  intro l hl;obtain⟨m,c,rfl⟩:∃m c,l=m++[c]:=⟨l.dropLast,l.getLast (by intro e;rw[e] at hl;cases hl),(List.dropLast_concat_getLast _).symm⟩;have hm:m.length=n:=by rw[List.length_append] at hl;simp at hl;exact hl
  rw[L8,DK _ _ _ (Xr _),ih m hm];have e1:mR (m++[c]) n=c.toNat-48:=by
   unfold mR;rw[List.getD_eq_getElem?_getD, <-hm,List.getElem?_append_right (Xr _),Nat.sub_self];rfl
  have e2:gB (mR (m++[c])) n n=gB (mR m) n n:=zM (Xr _) (λj _ hj=>by
   unfold mR;rw[List.getD_eq_getElem?_getD,List.getD_eq_getElem?_getD,List.getElem?_append_left Yo])
  rw[e1,e2];omega
variable{d:Nat->Nat}{n:Nat}
theorem Q3:∀{k:Nat},gB d n k=0↔∀j,j<k->d (n-1-j)=0
 |0=>⟨λ_ j hj=>absurd hj Yo,λ_=>rfl⟩
 |k+1=>by
  have hp:0<10^k:=Nat.pow_pos Yc;show gB d n k+d (n-1-k)*10^k=0↔_
  constructor
  .intro h j hj;rcases Nat.lt_or_ge j k with h1|h1
   .exact (Q3 (k:=k)).1 Yo j h1
   .obtain rfl:j=k:=Yo;have:d (n-1-j)*10^j=0:=Yo;rcases Nat.mul_eq_zero.1 this with h2|h2
    .exact h2
    .omega
  .intro h;rw[(Q3 (k:=k)).2 (λj hj=>h j Yo),h k Yo,Nat.zero_mul]
def mQ(d:Nat->Nat)(n:Nat):List UInt8:=(List.range n).map λj=>UInt8.ofNat (48+d j)
theorem oQ(d:Nat->Nat)(n:Nat):(mQ d n).length=n:=by unfold mQ;rw[List.length_map,List.length_range]
theorem FT{j:Nat}(h:∀j,d j<10)(hj:j<(mQ d n).length):((mQ d n)[j]).toNat=48+d j:=by
 have e:(mQ d n)[j]'hj=UInt8.ofNat (48+d j):=by simp[mQ]
 rw[e,UInt8.toNat_ofNat'];have:=h j;omega
theorem tL{α:Type}{p:α->Bool}:∀{l:List α},l.dropWhile p=[]↔∀x∈l,p x=true
 |[]=>by simp
 |a::l=>by
  rw[List.dropWhile_cons];split
  .rename_i h;rw[tL];simp[h]
  .rename_i h;simp[h]
theorem aFJ(l:List UInt8):Lib.trimB l 48=[]↔∀x∈l,x=48:=by
 unfold Lib.trimB Lib.trimLeftB Lib.trimRightB;rw[tL];constructor
 .intro h x hx;have hr:(l.reverse.dropWhile (· ==48))=[]:=by
   rcases Classical.em (l.reverse.dropWhile (· ==(48:UInt8))=[]) with h1|h1
   .exact h1
   .exfalso;obtain⟨a,t,e⟩:=List.exists_cons_of_ne_nil h1;have h2:=List.head_dropWhile_not (λx:UInt8=>x==48) (l:=l.reverse) h1;have h3:a=48:=by
     have:=h a (by rw[e];simp)
     simpa using this
    have h4:(l.reverse.dropWhile (λx:UInt8=>x==48)).head h1=a:=by
     simp[e]
    rw[h4,h3] at h2;simp at h2
  have:=(tL).1 hr x (by rw[List.mem_reverse];exact hx)
  simpa using this
 .intro h x hx;have h1:x∈l:=by
   rw[List.mem_reverse] at hx;have:=List.dropWhile_subset (p:=(· ==(48:UInt8))) (l:=l.reverse) hx;rw[List.mem_reverse] at this;exact this
  simp[h x h1]
theorem TG(h:∀j,d j<10):(Lib.trimB (mQ d n) 48=[])↔gB d n n=0:=by
 rw[aFJ,Q3];constructor
 .intro h1 j hj;have h2:n-1-j<(mQ d n).length:=by rw[oQ];omega
  have h3:=h1 _ (List.getElem_mem h2);have h4:=FT h h2;rw[h3] at h4;have e:(48:UInt8).toNat=48:=rfl;omega
 .intro h1 x hx;obtain⟨j,hj,rfl⟩:=List.mem_iff_getElem.1 hx;have hj':=hj;rw[oQ] at hj';have h3:=h1 (n-1-j) Yo;rw[show n-1-(n-1-j)=j by omega] at h3;apply UInt8.toNat_inj.1;rw[FT h hj,h3];rfl
theorem JE{F T t N D c D':Nat}(hT:0<T)(hN:N=F*2^t/T)(hD:D=F*2^t%T)(h:D'+c*T=2*D)(hD':D'<T):N*2+c=F*2^(t+1)/T/\D'=F*2^(t+1)%T:=by
 have e:F*2^(t+1)=D'+T*(N*2+c):=by
  rw[Nat.pow_succ, <-Nat.mul_assoc];have h1:=Nat.div_add_mod (F*2^t) T;rw[<-hN, <-hD] at h1;rw[<-h1,Nat.add_mul,Nat.mul_add,Nat.mul_comm T c, <-Nat.mul_assoc];omega
 constructor
 .rw[e,Nat.add_mul_div_left _ _ hT,Nat.div_eq_of_lt hD',Nat.zero_add]
 .rw[e,Nat.add_mul_mod_self_left,Nat.mod_eq_of_lt hD']
def fracV(l:List UInt8)(neg:Bool):Nat:=kN l*2^32/10^l.length+(if neg=true/\kN l*2^33%10^l.length=0 then 0 else kN l*2^33/10^l.length-2*(kN l*2^32/10^l.length))
theorem aLs(N c:Nat)(hN:N<4611686018427387904)(hc:c<=1):bits .or .u64 ((N:Int)*2) (c:Int)=((N*2+c:Nat):Int):=by
 have h:=bits_or_u64_nat (N*2) c Yo Yo;have e:N*2 ||| c=N*2+c:=by
  have:=Nat.shiftLeft_add_eq_or_of_lt (i:=1) (b:=c) Yo N;rw[Nat.shiftLeft_eq,Nat.pow_one] at this;exact this.symm
 rw[e] at h;exact h
theorem ME(w:World)(o:Obj):Below w.heap.size w (w.alloc o):=(Below.refl _ _).alloc (Xr _) _
set_option maxHeartbeats 2000000 in
set_option maxRecDepth 100000 in
theorem BG(l:List UInt8)(neg:Bool)(hl:l.length<=60)(hd:l.all mZ=true)(w:World):Calls Tryz.prog 205 #[.string ⟨l.toArray⟩,.bool neg] w λe w'=>e=.returned (.int .u64 (fracV l neg:Int))/\Below w.heap.size w w':=by
 have hS:=oI l;obtain⟨n,en⟩:∃n,l.length=n:=⟨_,rfl⟩;rw[en] at hS hl;have hcv:=λwx=>run_bytes_of_string (P:=Tryz.prog) wx 9 65 5 ⟨l.toArray⟩ Tryz.underlying9 Tryz.underlying65 Tryz.underlying5
 rw[hS] at hcv;obtain⟨F,eF⟩:∃F,kN l=F:=⟨_,rfl⟩;obtain⟨T,eT⟩:∃T,10^n=T:=⟨_,rfl⟩;have hT:0<T:=by rw[<-eT];exact Nat.pow_pos Yc
 have FV:=aB (show fracV l neg=F*2^32/T+(if neg=true/\F*2^33%T=0 then 0 else F*2^33/T-2*(F*2^32/T)) from by
  unfold fracV;rw[en,eF,eT])
 have hF0:gB (mR l) n n=F:=by rw[<-eF,MQ l,en]
 have hFT:F<T:=by rw[<-hF0, <-eT];exact U9 (AJ hd) n
 obtain⟨cap,ecap⟩:∃cap,grownCap w n 0 5=cap:=⟨_,rfl⟩;obtain⟨cells,ecl⟩:∃cells,bytesRow ⟨l.toArray⟩ cap=cells:=⟨_,rfl⟩;have hcell:∀j,j<n->cells[j]?=some (.int .u8 ((48+mR l j:Nat):Int)):=by
  intro j hj;rw[<-ecl];unfold bytesRow;have hj2:j<l.length:=Yo;rw[Array.getElem?_append_left (by simp;omega)];have h1:=(pW l[j]).1 (List.all_eq_true.1 hd _ (List.getElem_mem hj2));have h2:48+mR l j=(l[j]).toNat:=by
   unfold mR;rw[List.getD_eq_getElem?_getD,List.getElem?_eq_getElem hj2];show 48+((l[j]).toNat-48)=_
   omega
  rw[h2];simp[hj2]
 have hcsz:n<=cells.size:=by
  rw[<-ecl];unfold bytesRow;simp;omega
 have hcv0:(convert 9 65 (.string ⟨l.toArray⟩)).run Tryz.prog w=.ok (.slice (some ⟨w.heap.size,0,none⟩) n cap) (w.drew.alloc (.cells cells 5 (cells.size,cells.size+1))):=by
  rw[hcv w,ecap,ecl]
 have DG0:=aB (show Dg (((w.alloc (.cells cells 5 (cells.size,cells.size+1))).alloc (.cells #[.slice (some ⟨w.heap.size,0,none⟩) n cap] 65)).drew) w.heap.size n (mR l) from by
  refine⟨λj hj=>?_,λj hj=>?_,AJ hd⟩
  .show ((w.alloc (.cells cells 5 (cells.size,cells.size+1))).alloc (.cells #[.slice (some ⟨w.heap.size,0,none⟩) n cap] 65)).cell? ⟨w.heap.size,j,none⟩=_
   rw[World.cell?_alloc_old _ _ _ (by simp)];have:(w.alloc (.cells cells 5 (cells.size,cells.size+1))).cell? ⟨w.heap.size,j,none⟩=cells[j]?:=by
    have e1:(w.alloc (.cells cells 5 (cells.size,cells.size+1))).heap[w.heap.size]?=some (.cells cells 5 (cells.size,cells.size+1)):=by
     show (w.heap.push _)[w.heap.size]?=_
     rw[Array.getElem?_push_size]
    unfold World.cell?;simp only[e1];rfl
   rw[this];exact hcell j hj
  .show ((w.alloc (.cells cells 5 (cells.size,cells.size+1))).alloc (.cells #[.slice (some ⟨w.heap.size,0,none⟩) n cap] 65)).frozen? ⟨w.heap.size,j,none⟩=false
   have e1:((w.alloc (.cells cells 5 (cells.size,cells.size+1))).alloc (.cells #[.slice (some ⟨w.heap.size,0,none⟩) n cap] 65)).heap[w.heap.size]?=some (.cells cells 5 (cells.size,cells.size+1)):=by
    show ((w.heap.push _).push _)[w.heap.size]?=_
    rw[Array.getElem?_push,if_neg (by simp),Array.getElem?_push_size]
   unfold World.frozen?;rw[e1];simp;omega)
 have CB0:=aB (show (((w.alloc (.cells cells 5 (cells.size,cells.size+1))).alloc (.cells #[.slice (some ⟨w.heap.size,0,none⟩) n cap] 65)).drew).cell? ⟨w.heap.size+1,0,none⟩=some (.slice (some ⟨w.heap.size,0,none⟩) n cap) from by
  have h:=World.cell?_alloc_new (w.alloc (.cells cells 5 (cells.size,cells.size+1))) #[.slice (some ⟨w.heap.size,0,none⟩) n cap] 65 0;have e:(w.alloc (.cells cells 5 (cells.size,cells.size+1))).heap.size=w.heap.size+1:=by simp
  rw[e] at h;exact h)
 have BL0:=aB (show Below w.heap.size w (((w.alloc (.cells cells 5 (cells.size,cells.size+1))).alloc (.cells #[.slice (some ⟨w.heap.size,0,none⟩) n cap] 65)).drew) from
  ((ME w _).alloc (by simp) _).drew)
 have SZ0:=aB (show w.heap.size+1<(((w.alloc (.cells cells 5 (cells.size,cells.size+1))).alloc (.cells #[.slice (some ⟨w.heap.size,0,none⟩) n cap] 65)).drew).heap.size from by
  show w.heap.size+1<((w.alloc (.cells cells 5 (cells.size,cells.size+1))).alloc (.cells #[.slice (some ⟨w.heap.size,0,none⟩) n cap] 65)).heap.size
  simp)
 obtain⟨S,eS⟩:∃S:ByteArray,(⟨l.toArray⟩:ByteArray)=S:=⟨_,rfl⟩;rw[eS] at hS hcv0 ⊢;have HF0:=aB hF0;have ET:=aB eT;clear en eS hd hcv ecap ecl hcell hcsz eF eT hF0;go_enter Tryz.func205,Tryz.ntmps205
 go_wp2_with fail
 go_loopg [7,13] 32 (λgk ns ks wx=>∃(t N:Nat) (e:Nat->Nat),gk=32-t/\t<=32/\ks=.int .i64 (t:Int)/\ns=.int .u64 (N:Int)/\N=F*2^t/T/\Dg wx w.heap.size n e/\gB e n n=F*2^t%T/\wx.cell? ⟨w.heap.size+1,0,none⟩=some (.slice (some ⟨w.heap.size,0,none⟩) n cap)/\w.heap.size+1<wx.heap.size/\Below w.heap.size w wx)
 case atStart=>exact⟨0,0,mR l,rfl,Xz _,rfl,rfl,by rw[Nat.pow_zero,Nat.mul_one,Nat.div_eq_of_lt hFT],aA DG0,by rw[Nat.pow_zero,Nat.mul_one,Nat.mod_eq_of_lt hFT];exact aA HF0,aA CB0,aA SZ0,aA BL0⟩
 case round=>
  obtain⟨t,N,e,rfl,ht,rfl,rfl,hN,hDg,hlow,hcb,hsz,hbl⟩:=hrel;have hNb:N<4611686018427387904:=by
   have h1:F*2^t/T<2^t:=by
    rw[Nat.div_lt_iff_lt_mul hT,Nat.mul_comm];exact Nat.mul_lt_mul_of_pos_left hFT (Nat.pow_pos Yc)
   have h2:2^t<=2^32:=Nat.pow_le_pow_right Yc ht;have e3:(2:Nat)^32=4294967296:=by decide
   rw[<-hN] at h1;omega
  have HN:=aB hN;have HDG:=aB hDg;have HLOW:=aB hlow;have HCB:=aB hcb;have HSZ:=aB hsz;have HBL:=aB hbl;clear hN hDg hlow hcb hsz hbl;by_cases h32:t<32
  .have hti:(t:Int)<32:=Yo;go_wp2_with fail
   refine (CU (w.heap.size+1) w.heap.size n cap e wr hl (aA HCB) Yo (aA HDG)).mono ?_;rintro _ w1 ⟨c,e',rfl,hc1,d1,d2,d3,d4⟩;have hs:=JE hT (aA HN) (aA HLOW) (D':=gB e' n n) (c:=c) (by rw[<-aA ET];exact d2) (by rw[<-aA ET];exact U9 d1.dig n);have eo:=aLs N c hNb hc1;have D1:=aB d1;have HS:=aB hs;have CB1:=aB ((d3 ⟨w.heap.size+1,0,none⟩ (by simp)).trans (aA HCB));have dB:=d4 w.heap.size (Xr _) (aA HBL).size;have BL1:=aB ((aA HBL).trans dB);have SZ1:=aB (Nat.lt_of_lt_of_le (aA HSZ) dB.size);clear d1 d2 d3 d4 hs dB;go_wp2_with fail
   go_roundg (32-(t+1))
   case measure=>omega
   case rel=>exact⟨t+1,N*2+c,e',rfl,Yo,by go_num,by go_num,(aA HS).1,aA D1,(aA HS).2,aA CB1,aA SZ1,aA BL1⟩
  .obtain rfl:t=32:=Yo;go_wp2_with fail
   refine (CU (w.heap.size+1) w.heap.size n cap e wr hl (aA HCB) Yo (aA HDG)).mono ?_;rintro _ w1 ⟨c,e',rfl,hc1,d1,d2,d3,d4⟩;have hs:=JE hT (aA HN) (aA HLOW) (D':=gB e' n n) (c:=c) (by rw[<-aA ET];exact d2) (by rw[<-aA ET];exact U9 d1.dig n);have HS:=aB hs;have cb1:=(d3 ⟨w.heap.size+1,0,none⟩ (by simp)).trans (aA HCB);have dB:=d4 w.heap.size (Xr _) (aA HBL).size;have BL1:=aB ((aA HBL).trans dB);have hst:(convert 65 9 (.slice (some ⟨w.heap.size,0,none⟩) n cap)).run Tryz.prog w1=.ok (.string ⟨(mQ e' n).toArray⟩) w1:=by
    have h:=run_convert_bytes_back (P:=Tryz.prog) w1 65 9 5 ⟨w.heap.size,0,none⟩ cap (mQ e' n) Tryz.underlying65 Tryz.underlying5 Tryz.underlying9 (λj hj=>by
     rw[FT d1.dig hj,Lib.add_plain,Nat.zero_add];exact d1.cell j (by rw[oQ] at hj;exact hj))
    rw[oQ] at h;exact h
   have hemp:(⟨(Lib.trimB (mQ e' n) 48).toArray⟩:ByteArray).toList.isEmpty=decide (gB e' n n=0):=by
    rw[Lib.toList_data];show (Lib.trimB (mQ e' n) 48).isEmpty=_
    have:=TG (n:=n) d1.dig;by_cases h:gB e' n n=0
    .rw[Xt h,this.2 h];rfl
    .rw[Xf h]
     cases h2:Lib.trimB (mQ e' n) 48 with
     |nil=>exact absurd (this.1 h2) h
     |cons _ _=>rfl
   have hsz2:(⟨(mQ e' n).toArray⟩:ByteArray).size<=9223372036854775807:=by rw[oI,oQ];omega
   have htr:=λwx=>Tryz.strings_Trim_one ⟨(mQ e' n).toArray⟩ 48 Yc wx hsz2
   have etr:Lib.trimB (⟨(mQ e' n).toArray⟩:ByteArray).data.toList 48=Lib.trimB (mQ e' n) 48:=rfl;rw[etr] at htr;obtain⟨S2,eS2⟩:∃S2:ByteArray,(⟨(mQ e' n).toArray⟩:ByteArray)=S2:=⟨_,rfl⟩;rw[eS2] at hst htr;obtain⟨S3,eS3⟩:∃S3:ByteArray,(⟨(Lib.trimB (mQ e' n) 48).toArray⟩:ByteArray)=S3:=⟨_,rfl⟩;rw[eS3] at htr hemp;have HTR:=aB htr;obtain⟨D,eD⟩:∃D,gB e' n n=D:=⟨_,rfl⟩;rw[eD] at hemp HS;have hcN:(N:Int)+(c:Int)<18446744073709551616:=Yo;clear d1 d2 d3 d4 hs dB htr etr eS2 eS3 hsz2 eD;go_wp2_with fail
   refine (aA HTR _).mono ?_;rintro _ w2 ⟨rfl,hw2⟩;have BL2:=aB (show Below w.heap.size w w2 from by
    rcases hw2 with rfl|rfl
    .exact aA BL1
    .exact (aA BL1).drew)
   have RES:=aB (show fracV l neg=if neg=true/\D=0 then N else N+c from by
    have h1:=aA HS;have h2:=aA HN;rw[aA FV, <-h2, <-h1.1, <-h1.2];split
    .omega
    .omega)
   clear hw2 cb1 hst
   cases neg
   .go_wp2_with fail
    go_ret
    refine⟨?_,aA BL2⟩;rw[aA RES,if_neg (by simp)];rfl
   .by_cases hD0:D=0
    .rw[Xt hD0] at hemp;have RES2:=aB (show fracV l true=N from by rw[aA RES,if_pos ⟨rfl,hD0⟩]);clear hD0;go_wp2_with fail
     go_ret
     refine⟨?_,aA BL2⟩;rw[aA RES2];rfl
    .rw[Xf hD0] at hemp;have RES2:=aB (show fracV l true=N+c from by rw[aA RES,if_neg (λh=>hD0 h.2)]);clear hD0;go_wp2_with fail
     go_ret
     refine⟨?_,aA BL2⟩;rw[aA RES2];rfl
end Go.Proofs.YthimcecbgpamdaaGreatDoor
