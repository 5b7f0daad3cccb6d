import Derived.Test.YthimcecbgpamdaaGreatDoorShelf
import Derived.Test.YthimcecbgpamdaaGreatDoorNear206
import Derived.Lib.AppendIntMem
namespace Go.Proofs.YthimcecbgpamdaaGreatDoor
open Go.Shelf Go.RowKit Go.Sort Go.Lib
set_option maxHeartbeats 6400000 in
set_option maxRecDepth 100000 in
theorem Y0 (u : Nat) (hu64 : u < 18446744073709551616) (w : World) (htab : Lib.TabIs Tryz.prog w "internal/strconv.uint64pow10" .u64 Lib.pow10Tab) :
  Calls Tryz.prog 64 #[.int .u64 u,.int .i64 10] w λe w'=>e=.returned (.string ⟨(Lib.decDigits u).toArray⟩)/\Below w.heap.size w w':=by
 by_cases hs:u<100
 .have iu:(u:Int)<100:=Yo;go_enter Tryz.func64,Tryz.ntmps64
  go_wp2_with (first
   |(go_at_call 115;refine (Tryz.internal_strconv_small u hs _).mono ?_;rintro e w' ⟨rfl,rfl⟩))
  go_ret
  exact⟨rfl,Below.refl _ _⟩
 .have hu1:1<=u:=Yo;have hnd20:Lib.nDigits u<=20:=by have:=Lib.numDigits_eq u hu1 hu64;split at this<;>omega
  have hal:Tryz.prog.arrayLen 171=24:=by simp[Program.arrayLen,Tryz.underlying171]
  have hsl:∀W,(Instr.sliceAt 171 (.pointer (some ⟨w.heap.size,0,none⟩)) none (some (.int .i64 (Lib.nDigits u:Int))) none).run Tryz.prog W=.ok (.slice (some ⟨w.heap.size,0,none⟩) (Lib.nDigits u) 24) W:=λW=>by
   rw[run_sliceAt_array_h W 171 ⟨w.heap.size,0,none⟩ (by simp[Program.arrayLen,Program.elem,Tryz.underlying171]) .i64 (Lib.nDigits u:Int) Yo (by rw[hal];omega)];go_simp
  have hH0:=Lib.holds_zero0 w 171 (Lib.nDigits u) Yo;have hfmt:=Tryz.internal_strconv_formatBase10 w.heap.size 0 24 u (Array.replicate (Lib.nDigits u) 0) (w.alloc (.cells Lib.zeros24 171)) hH0 (by rw[Array.size_replicate];exact Lib.lt_pow_nDigits u) hu64 (by rw[Array.size_replicate];omega);rw[Array.size_replicate] at hfmt;have HH0:=Lib.hid hH0;have iu:(100:Int)<=(u:Int):=Yo;clear hH0 hal;go_enter Tryz.func64,Tryz.ntmps64
  go_wp2_with (first
   |(go_at_call 116;refine (Tryz.internal_strconv_numDigits u hu1 hu64 _ (Lib.tabIs_alloc htab _)).mono ?_;rintro e w' ⟨rfl,rfl⟩))
  go_at_call 117
  refine hfmt.mono ?_;rintro e w' ⟨rfl,k,v',dk,rfl,hF⟩;have hcv:(convert 65 9 (.slice (some ⟨w.heap.size,0,none⟩) (Lib.nDigits u) 24)).run Tryz.prog ((putRow (λ(b:UInt8)=>Value.int .u8 (b.toNat:Int)) (w.alloc (.cells Lib.zeros24 171)) w.heap.size 0 dk).drewN k)=.ok (.string ⟨(Lib.decDigits u).toArray⟩) ((putRow (λ(b:UInt8)=>Value.int .u8 (b.toNat:Int)) (w.alloc (.cells Lib.zeros24 171)) w.heap.size 0 dk).drewN k):=by
   have h:=run_convert_bytes_back (P:=Tryz.prog) ((putRow (λ(b:UInt8)=>Value.int .u8 (b.toNat:Int)) (w.alloc (.cells Lib.zeros24 171)) w.heap.size 0 dk).drewN k) 65 9 5 ⟨w.heap.size,0,none⟩ 24 (Lib.decDigits u) Tryz.underlying65 Tryz.underlying5 Tryz.underlying9 (λj hj=>by
    rw[Lib.row_is_numeral hF j hj,Lib.add_plain,World.cell?_drewN];exact cell?_putRow (λ(b:UInt8)=>Value.int .u8 (b.toNat:Int)) _ w.heap.size 0 _ dk HH0.out (by rw[hF.size,Array.size_replicate]) j (by rw[hF.size];rw[Lib.decDigits_length] at hj;exact hj))
   rw[Lib.decDigits_length] at h;exact h
  have hbl:Below w.heap.size w ((putRow (λ(b:UInt8)=>Value.int .u8 (b.toNat:Int)) (w.alloc (.cells Lib.zeros24 171)) w.heap.size 0 dk).drewN k):=by
   obtain⟨os,eo⟩:=Lib.fin_at w (.cells Lib.zeros24 171) dk k 0;rw[eo];exact Lib.below_grow w.heap.size w (Xr _) k os
  go_wp2
  go_ret
  exact⟨rfl,hbl⟩
theorem FZ (u : Nat) (hu64 : u < 18446744073709551616) (w : World) (htab : Lib.TabIs Tryz.prog w "internal/strconv.uint64pow10" .u64 Lib.pow10Tab) :
  Calls Tryz.prog 28 #[.int .u64 u,.int .i64 10] w λe w'=>e=.returned (.string ⟨(Lib.decDigits u).toArray⟩)/\Below w.heap.size w w':=by
 go_enter Tryz.func28,Tryz.ntmps28
 go_wp2_with fail
 refine (Y0 u hu64 _ htab).mono ?_;rintro e w' ⟨rfl,hb⟩;have HB:=aB hb;clear hb htab;go_wp2_with fail
 go_ret
 exact⟨rfl,aA HB⟩
end Go.Proofs.YthimcecbgpamdaaGreatDoor
namespace Go.Proofs.YthimcecbgpamdaaGreatDoor
open Go.Lib
def CS(d:Nat):UInt8:=UInt8.ofNat (48+d)
variable{d:Nat}
theorem wV(h:d<10):(CS d).toNat=48+d:=by
 unfold CS;rw[UInt8.toNat_ofNat'];omega
theorem aDh(h:d<10):CS d=48↔d=0:=by
 constructor
 .intro e;have:=congrArg UInt8.toNat e;rw[wV h] at this;have e2:(48:UInt8).toNat=48:=rfl;omega
 .rintro rfl;rfl
def jA:Nat->Nat->List UInt8
 |0,_=>[]
 |k+1,n=>jA k (n/10)++[CS (n%10)]
theorem jW:∀(k n:Nat),(jA k n).length=k
 |0,_=>rfl
 |k+1,n=>by rw[jA,List.length_append,jW k];rfl
theorem JN(n:Nat):jA (nDigits n) n=decDigits n:=by
 induction n using Nat.strongRecOn with
 |_ n ih=>
  by_cases h:n<10
  .rw[nDigits_small h,decDigits,dif_pos h];show []++[CS (n%10)]=_
   rw[Nat.mod_eq_of_lt h];rfl
  .rw[nDigits_big h,decDigits,dif_neg h,jA,ih (n/10) Yo];rfl
theorem uL{n k:Nat}(hk:0<k)(h:n<10^k):nDigits n<=k:=by
 induction k generalizing n with
 |zero=>omega
 |succ k ih=>
  by_cases hn:n<10
  .rw[nDigits_small hn];omega
  .rw[nDigits_big hn];rw[Nat.pow_succ] at h;rcases Nat.eq_zero_or_pos k with h0|h0
   .subst h0;simp at h;omega
   .have:=ih h0 (n:=n/10) Yo;omega
def fRest(R i:Nat):Nat:=R*10^i%4294967296
def iR(R i:Nat):Nat:=R*10^i/4294967296
theorem aAc(R i:Nat):iR R (i+1)=10*iR R i+fRest R i*10/4294967296:=by
 unfold iR fRest;rw[Nat.pow_succ, <-Nat.mul_assoc];omega
theorem CW(R i:Nat):fRest R (i+1)=fRest R i*10%4294967296:=by
 unfold fRest;rw[Nat.pow_succ, <-Nat.mul_assoc];omega
theorem NC(R i:Nat):fRest R i<4294967296:=Nat.mod_lt _ Yc
theorem aKu(R i:Nat):fRest R i*10/4294967296<10:=by have:=NC R i;omega
theorem JM(R i:Nat):jA (i+1) (iR R (i+1))=jA i (iR R i)++[CS (fRest R i*10/4294967296)]:=by
 have:=aKu R i;rw[jA,aAc,show (10*iR R i+fRest R i*10/4294967296)/10=iR R i by omega,show (10*iR R i+fRest R i*10/4294967296)%10=fRest R i*10/4294967296 by omega]
theorem aDp(R:Nat):fRest R 32=0:=by
 unfold fRest;have e:(10:Nat)^32=23283064365386962890625*4294967296:=by decide
 rw[e, <-Nat.mul_assoc];obtain⟨z,ez⟩:∃z,R*23283064365386962890625=z:=⟨_,rfl⟩;rw[ez];clear ez e;omega
theorem BD(R i:Nat)(h:fRest R i=0):∀d,fRest R (i+d)=0/\jA (i+d) (iR R (i+d))=jA i (iR R i)++List.replicate d 48
 |0=>⟨h,by simp⟩
 |d+1=>by
  obtain⟨h1,h2⟩:=BD R i h d;refine⟨?_,?_⟩
  .rw[<-Nat.add_assoc,CW,h1]
  .rw[<-Nat.add_assoc,JM,h1,h2,List.append_assoc,List.replicate_succ'];rfl
end Go.Proofs.YthimcecbgpamdaaGreatDoor
