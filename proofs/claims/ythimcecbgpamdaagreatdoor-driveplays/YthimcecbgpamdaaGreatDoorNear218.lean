import Derived.Test.YthimcecbgpamdaaGreatDoorNear190
import Derived.Lib.AppendIntMem
set_option maxHeartbeats 6400000
set_option maxRecDepth 100000
open Go.Proofs.YthimcecbgpamdaaGreatDoor renaming Yo->C,aA->E,hide->I
open _root_ renaming Int->G,rfl->M,ByteArray->V,List->Y,if_neg->γ,if_pos->δ,absurd->θ,congrArg->ξ
open Option renaming none->N,some->O
open Go.Proofs.Tryz renaming prog->T
open Go.Lib renaming decDigits->U
open Go.Value renaming int->X,slice->ζ,pointer->ι,int->κ
open Go.Obj renaming cells->Z
open Go renaming execOp->β,Calls->ε,World->η,Operand->μ,results->ν
open List renaming replicate->ο
namespace Go.Proofs.YthimcecbgpamdaaGreatDoor
section
open Go.RowKit Go.Lib
abbrev tV(t:Y UInt8):Value:=.string ⟨t.toArray⟩
def jN(h:Nat->Value)(p v:Value)(j:Nat):Value:=if j<311 then h j else if j=311 then p else v
def FZ(b:Nat)(p:Value):Prop:=p=ι N\/p=ι (O ⟨b,311,N⟩)
theorem aKL(h:Nat->Value)(p v q u):∀j,j<313->stW (stW (jN h p v) 311 q) 312 u j=jN h q u j:=λj hj=>by
 unfold stW jN;by_cases e:j=312
 .rw[δ e,γ C,γ C]
 rw[γ e];by_cases e2:j=311
 .rw[δ e2,γ C,δ e2]
 rw[γ e2,δ C,δ C]
def jE(ts:Y (Y UInt8))(j:Nat):Value:=tV (ts.getD j [])
variable{K:Act->η->Prop}{Q:Exit->Act->η->Prop}{a:Act}{o:Oper}{t0:Y UInt8}{w:η}{x0:μ}
theorem Q7(ho:o.op=.buildSlice 59 1 #[(0,x0)])(h0:a.eval x0=tV t0)(h:∀w',Vh 9 w' w.heap.size 1 1 (jE [t0])->Below w.heap.size w w'->w'.heap.size=w.heap.size+1->K (a.put o.dst (.slice (O ⟨w.heap.size,0,N⟩) 1 1)) w'):WpI T o a w K Q:=by
 have hh:=h (w.alloc (Z #[tV t0] 9)) (Cf (jE [t0]) 1 Yc (by show (w.heap.push _)[w.heap.size]?=_;rw[Bt];rfl)) (bU _ _) (fA _ _);have e:(β a.eval o).run T w=.ok (.value (ζ (O ⟨w.heap.size,0,N⟩) 1 1)) (w.alloc (Z #[tV t0] 9)):=by generalize a.eval=f at h0;unfold β;rw[ho];simp only[Ay,Aw,Az];rw[h0];go_simp
 refine⟨?_⟩;unfold Oper.wp;rw[e];exact hh
variable{t1:Y UInt8}{x1:μ}
theorem aMO(ho:o.op=.buildSlice 59 2 #[(0,x0),(1,x1)])(h0:a.eval x0=tV t0)(h1:a.eval x1=tV t1)(h:∀w',Vh 9 w' w.heap.size 2 2 (jE [t0,t1])->Below w.heap.size w w'->w'.heap.size=w.heap.size+1->K (a.put o.dst (.slice (O ⟨w.heap.size,0,N⟩) 2 2)) w'):WpI T o a w K Q:=by
 have hh:=h (w.alloc (Z #[tV t0,tV t1] 9)) (Cf (jE [t0,t1]) 2 Yc (by show (w.heap.push _)[w.heap.size]?=_;rw[Bt];rfl)) (bU _ _) (fA _ _);have e:(β a.eval o).run T w=.ok (.value (ζ (O ⟨w.heap.size,0,N⟩) 2 2)) (w.alloc (Z #[tV t0,tV t1] 9)):=by generalize a.eval=f at h0 h1;unfold β;rw[ho];simp only[Ay,Aw,Az];rw[h0,h1];go_simp
 refine⟨?_⟩;unfold Oper.wp;rw[e];exact hh
theorem aMP{x2}{t2}(ho:o.op=.buildSlice 59 3 #[(0,x0),(1,x1),(2,x2)])(h0:a.eval x0=tV t0)(h1:a.eval x1=tV t1)(h2:a.eval x2=tV t2)(h:∀w',Vh 9 w' w.heap.size 3 3 (jE [t0,t1,t2])->Below w.heap.size w w'->w'.heap.size=w.heap.size+1->K (a.put o.dst (.slice (O ⟨w.heap.size,0,N⟩) 3 3)) w'):WpI T o a w K Q:=by
 have hh:=h (w.alloc (Z #[tV t0,tV t1,tV t2] 9)) (Cf (jE [t0,t1,t2]) 3 Yc (by show (w.heap.push _)[w.heap.size]?=_;rw[Bt];rfl)) (bU _ _) (fA _ _);have e:(β a.eval o).run T w=.ok (.value (ζ (O ⟨w.heap.size,0,N⟩) 3 3)) (w.alloc (Z #[tV t0,tV t1,tV t2] 9)):=by generalize a.eval=f at h0 h1 h2;unfold β;rw[ho];simp only[Ay,Aw,Az];rw[h0,h1,h2];go_simp
 refine⟨?_⟩;unfold Oper.wp;rw[e];exact hh
theorem aCt{x2 x3}{t2 t3}(ho:o.op=.buildSlice 59 4 #[(0,x0),(1,x1),(2,x2),(3,x3)])(h0:a.eval x0=tV t0)(h1:a.eval x1=tV t1)(h2:a.eval x2=tV t2)(h3:a.eval x3=tV t3)(h:∀w',Vh 9 w' w.heap.size 4 4 (jE [t0,t1,t2,t3])->Below w.heap.size w w'->w'.heap.size=w.heap.size+1->K (a.put o.dst (.slice (O ⟨w.heap.size,0,N⟩) 4 4)) w'):WpI T o a w K Q:=by
 have hh:=h (w.alloc (Z #[tV t0,tV t1,tV t2,tV t3] 9)) (Cf (jE [t0,t1,t2,t3]) 4 Yc (by show (w.heap.push _)[w.heap.size]?=_;rw[Bt];rfl)) (bU _ _) (fA _ _);have e:(β a.eval o).run T w=.ok (.value (ζ (O ⟨w.heap.size,0,N⟩) 4 4)) (w.alloc (Z #[tV t0,tV t1,tV t2,tV t3] 9)):=by generalize a.eval=f at h0 h1 h2 h3;unfold β;rw[ho];simp only[Ay,Aw,Az];rw[h0,h1,h2,h3];go_simp
 refine⟨?_⟩;unfold Oper.wp;rw[e];exact hh
variable{P:Program}
theorem Q8{J:Act->η->Prop}{x}{id}(h:Q .normal a w):Nx P x (Exit.then J (Exit.inBlock id Q)) (.exit id) a w:=by unfold Nx Exit.then Exit.inBlock;simp only[if_true];exact h
variable{fn:Func}
theorem aNj(h:fn.results=#[]):(ν fn a.tmps).run P w=.ok (.tuple #[]) w:=by simp[ν,h]
variable{R:Ending->η->Prop}{v:Value}
theorem aEw(hd:a.defers=[])(hr:(ν fn a.tmps).run P w=.ok v w)(h:R (.returned v) w):bodyPost P fn R .normal a w:=⟨hd,v,hr,h⟩
theorem rP{w0}{b bt}{h:Nat->Value}{p}{L}(l)(ts)(tc)(H:Cx w0 w (vhI 69 b 313 313 (jN h p v)::yF w0.heap.size v l::vhI 9 bt ts.length ts.length (jE ts)::L))(hp:FZ b p)(hn:l.length+ts.flatten.length<=140737488351232)(hl:ts.length<=1000):ε T 16 #[.pointer (O ⟨b,0,N⟩),.slice (O ⟨bt,0,N⟩) ts.length tc] w λe w'=>∃p' v',e=.returned (.tuple #[])/\FZ b p'/\Cx w0 w' (vhI 69 b 313 313 (jN h p' v')::yF w0.heap.size v' (l++ts.flatten)::L):=by
 refine bC Tryz.func16 M 18 M Yd (λA hs hd hb=>?_);have b0:A.eval (.tmp 0)=ι (O ⟨b,0,N⟩):=hb 0 _ M;have b1:A.eval (.tmp 1)=ζ (O ⟨bt,0,N⟩) ts.length tc:=hb 1 _ M;clear hb;refine aD (aG ?_);iterate 3 refine qa ?_
 refine aC<|aJ ?_;refine bR (λr A W=>∃(k:Nat) (p' v':Value),k<=ts.length/\ts.length-k<=r/\A.tmps.size=18/\A.defers=[]/\A.eval (.tmp 0)=ι (O ⟨b,0,N⟩)/\A.eval (.tmp 6)=ζ (O ⟨bt,0,N⟩) ts.length tc/\A.eval (.tmp 7)=X .i64 (ts.length:Nat)/\A.eval (.tmp 8)=X .i64 (k:Nat)/\FZ b p'/\Cx w0 W (vhI 69 b 313 313 (jN h p' v')::yF w0.heap.size v' (l++(ts.take k).flatten)::vhI 9 bt ts.length ts.length (jE ts)::L)) ts.length
  ⟨0,p,v,Xz _,C,YA,YB,Qv,Qv,Qv,Qv,hp,by rw[List.take_zero,Em,Be];exact H⟩ (λr B W hI=>?_)
 clear b0 b1 hs hd H hp;obtain⟨k,p',v',hk,hkr,hs,hd,b0,b6,b7,b8,hp,H⟩:=hI;refine aD (aG ?_);refine qa ?_;refine aC<|aH<|fB (λhc=>?_) (λhc=>?_)
 .have hin:k<ts.length:=by have:=Xu hc;omega
  have e1:ts.getD k []=ts[k]:=by rw[Bh,Bf hin];rfl
  refine aR<|aH (aJ ?_);refine aD<|qg (dD (i:=k) _ _ _ _ rfl SlcK.out SizK.out Qv Qv rfl hin _) ?_;refine qg (aT (v:=tV ts[k]) _ _ M OneK.out Qv H.v2 C (by unfold jE;rw[show 0+k*1=k by omega,e1])) ?_;refine qa ?_;refine aC<|aI ?_;iterate 4 refine qa ?_
  have hle:(l++(ts.take k).flatten).length+ts[k].length<=140737488351232:=by
   have e2:ts.flatten=(ts.take k).flatten++(ts[k]++(ts.drop (k+1)).flatten):=by conv=>lhs;rw[<-uV k ts,List.flatten_append,List.drop_eq_getElem_cons hin,En]
   rw[e2,Ag,Ag] at hn;rw[Ag];omega
  refine q_c (aJr (l++(ts.take k).flatten) ts[k] H (by unfold jN;rw[γ C,δ M];exact hp) (by unfold jN;rw[γ C,γ C]) hle) ?_;rintro e w1 ⟨r1,v1,rfl,h1,H1⟩;refine⟨_,M,?_⟩;clear H;replace H1:=H1.wk (y:=vhI 69 b 313 313 (jN h (ι (O ⟨b,311,N⟩)) v1)) (λm=>Ac m (aKL _ _ _ _ _)) (λ_ h=>h);refine fK<|aI ?_;repeat refine qa ?_
  exact aU ⟨ts.length-(k+1),C,k+1,_,v1,C,C,YA,YB,Qv,Qv,Qv,Ae Qv YC,Ab M,by rw[<-Fw hin,List.flatten_append, <-Ce,En,Em,Be];exact H1⟩
 obtain rfl:k=ts.length:=by have:=Xg hc;omega
 rw[Hz] at H;exact bL (Q8 (aEw YB (aNj M) ⟨_,_,M,hp,H.f2.tl⟩))
section
variable {f:μ->Value} {o:Oper}
theorem gZ(x y)(ho:o.op=.binOp .add 9 x y 9){a b}(hx:f x=tV a)(hy:f y=tV b)(h:a.length+b.length<=9223372036854775807)(w):(β f o).run T w=.ok (.value (tV (a++b))) w:=by unfold β;rw[ho];dsimp only;rw[hx,hy];go_simp;rw[γ C];refine ξ (λs=>Result.ok (Next.value (Value.string s)) w) ?_;exact wJ (by rw[Dy,Dy];simp)
theorem jS(x)(ho:o.op=.call { callee:=.builtin .len,args:=#[x],argTypes:=#[9] }){l}(hx:f x=tV l)(w):(β f o).run T w=.ok (.value (.int .i64 l.length)) w:=by rw[yR x ho hx w];rfl
theorem EI(x y z)(ho:o.op=.slice 9 x (O y) (O z) N){p m q}{a b}(hx:f x=tV (p++(m++q)))(hy:f y=.int .i64 a)(hz:f z=.int .i64 b)(ha:a=p.length)(hb:b=(p.length+m.length:Nat))(w):(β f o).run T w=.ok (.value (tV m)) w:=by
 subst ha hb;have h1:((p.length:Nat):G)<=((p.length+m.length:Nat):G):=C;have h2:((p.length+m.length:Nat):G)<=(((p++(m++q)).length:Nat):G):=by rw[Ag,Ag];omega
 unfold β;rw[ho];simp only[Cc,Dx];rw[hx,hy,hz];go_simp;rw[δ ⟨C,C⟩,δ C,show ((p.length:Nat):G)+((m.length:Nat):G)=((p.length+m.length:Nat):G) by omega,Hm];refine ξ (λs=>Result.ok (Next.value (Value.string s)) w) (wJ ?_);rw[Dy,Dy,Lib.extract_data];simp
end
end
section
open Go.Shelf Go.RowKit Go.Sort Go.Lib
theorem LK (u : Nat) (hu64 : u < 18446744073709551616) (w ) (htab : Lib.TabIs Tryz.prog w "internal/strconv.uint64pow10" .u64 Lib.pow10Tab) :
  ε T 64 #[X .u64 u,X .i64 10] w λe w'=>e=.returned (.string ⟨(Lib.decDigits u).toArray⟩)/\Below w.heap.size w w':=by
 by_cases hs:u<100
 .have iu:(u:G)<100:=C;go_in;go_wp2_with (first
   |(go_at_call 115;refine (Tryz.internal_strconv_small u hs _).mono ?_;rintro e w' ⟨rfl,rfl⟩))
  go_ret;exact⟨M,Af _ _⟩
 .have hu1:1<=u:=C;have hnd20:Lib.nDigits u<=20:=by have:=Lib.numDigits_eq u hu1 hu64;split at this<;>omega
  have hal:Tryz.prog.arrayLen 171=24:=by simp[Program.arrayLen,Tryz.underlying171]
  have hsl:∀W,(Instr.sliceAt 171 (ι (O ⟨w.heap.size,0,N⟩)) N (O (X .i64 (Lib.nDigits u:G))) N).run T W=.ok (ζ (O ⟨w.heap.size,0,N⟩) (Lib.nDigits u) 24) W:=λW=>by rw[run_sliceAt_array_h W 171 ⟨w.heap.size,0,N⟩ (by simp[Program.arrayLen,Program.elem,Tryz.underlying171]) .i64 (Lib.nDigits u:G) C (by rw[hal];omega)];go_simp
  have hH0:=Lib.holds_zero0 w 171 (Lib.nDigits u) C;have hfmt:=Tryz.internal_strconv_formatBase10 w.heap.size 0 24 u (Array.replicate (Lib.nDigits u) 0) (w.alloc (Z Lib.zeros24 171)) hH0 (by rw[Il];exact Lib.lt_pow_nDigits u) hu64 (by rw[Il];omega);rw[Il] at hfmt;have HH0:=Lib.hid hH0;have iu:(100:G)<=(u:G):=C;clear hH0 hal;go_in;go_wp2_with (first
   |(go_at_call 116;refine (Tryz.internal_strconv_numDigits u hu1 hu64 _ (Lib.tabIs_alloc htab _)).mono ?_;rintro e w' ⟨rfl,rfl⟩))
  go_at_call 117;refine hfmt.mono ?_;rintro e w' ⟨rfl,k,v',dk,rfl,hF⟩;have hcv:(convert 65 9 (ζ (O ⟨w.heap.size,0,N⟩) (Lib.nDigits u) 24)).run T ((putRow (λ(b:UInt8)=>κ .u8 (b.toNat:G)) (w.alloc (Z Lib.zeros24 171)) w.heap.size 0 dk).drewN k)=.ok (.string ⟨(Lib.decDigits u).toArray⟩) ((putRow (λ(b:UInt8)=>κ .u8 (b.toNat:G)) (w.alloc (Z Lib.zeros24 171)) w.heap.size 0 dk).drewN k):=by
   have h:=run_convert_bytes_back (P:=T) ((putRow (λ(b:UInt8)=>κ .u8 (b.toNat:G)) (w.alloc (Z Lib.zeros24 171)) w.heap.size 0 dk).drewN k) 65 9 5 ⟨w.heap.size,0,N⟩ 24 (Lib.decDigits u) Cz Hq Ev (λj hj=>by rw[Lib.row_is_numeral hF j hj,Lib.add_plain,World.cell?_drewN];exact cell?_putRow (λ(b:UInt8)=>κ .u8 (b.toNat:G)) _ w.heap.size 0 _ dk HH0.out (by rw[hF.size,Il]) j (by rw[hF.size];rw[Lib.decDigits_length] at hj;exact hj));rw[Lib.decDigits_length] at h;exact h
  have hbl:Below w.heap.size w ((putRow (λ(b:UInt8)=>κ .u8 (b.toNat:G)) (w.alloc (Z Lib.zeros24 171)) w.heap.size 0 dk).drewN k):=by obtain⟨os,eo⟩:=Lib.fin_at w (Z Lib.zeros24 171) dk k 0;rw[eo];exact Lib.below_grow w.heap.size w (Xr _) k os
  go_wp2;go_ret;exact⟨M,hbl⟩
theorem UL (u : Nat) (hu64 : u < 18446744073709551616) (w ) (htab : Lib.TabIs Tryz.prog w "internal/strconv.uint64pow10" .u64 Lib.pow10Tab) :
  ε T 28 #[X .u64 u,X .i64 10] w λe w'=>e=.returned (.string ⟨(Lib.decDigits u).toArray⟩)/\Below w.heap.size w w':=by
 go_in;go_wp2_with fail;refine (LK u hu64 _ htab).mono ?_;rintro e w' ⟨rfl,hb⟩;have HB:=I hb;clear hb htab;go_wp2_with fail;go_ret;exact⟨M,E HB⟩
end
section
open Go.Lib
def PV(d:Nat):UInt8:=UInt8.ofNat (48+d)
variable{d:Nat}
theorem WK(h:d<10):(PV d).toNat=48+d:=by unfold PV;rw[UInt8.toNat_ofNat'];omega
theorem aJO(h:d<10):PV d=48↔d=0:=by
 constructor
 .intro e;have:=ξ UInt8.toNat e;rw[WK h] at this;have e2:(48:UInt8).toNat=48:=rfl;omega
 rintro rfl;rfl
def jA:Nat->Nat->Y UInt8
 |0,_=>[]
 |k+1,n=>jA k (n/10)++[PV (n%10)]
theorem pR:∀(k n:Nat),(jA k n).length=k
 |0,_=>rfl
 |k+1,n=>by rw[jA,Ag,pR k];rfl
theorem U2:∀(k W F:Nat),0<W->F<10^k->U (W*10^k+F)=U W++jA k F
 |0,W,F,_,hF=>by
  have:F=0:=by simpa using hF
  subst this;simp[jA]
 |k+1,W,F,hW,hF=>by
  rw[Cg] at hF;have hp:0<10^k:=Nat.pow_pos Yc;have h1:10<=W*10^(k+1)+F:=by rw[Cg, <-Cu];have:=Nat.mul_pos hW hp;omega
  have h2:(W*10^(k+1)+F)/10=W*10^k+F/10:=by rw[Cg, <-Cu];omega
  have h3:(W*10^(k+1)+F)%10=F%10:=by rw[Cg, <-Cu];omega
  rw[U,dif_neg C,h2,h3,U2 k W (F/10) hW C,jA,Ce];rfl
theorem JF:∀(k n:Nat),n<10^k->jA (k+1) n=48::jA k n
 |0,n,h=>by
  have:n=0:=by simpa using h
  subst this;rfl
 |k+1,n,h=>by rw[Cg] at h;rw[jA,JF k (n/10) C,jA];rfl
theorem aHP(n):jA (nDigits n) n=U n:=by
 induction n using Nat.strongRecOn with
 |_ n ih=>
  by_cases h:n<10
  .rw[nDigits_small h,U,dif_pos h];show []++[PV (n%10)]=_;rw[Ht h];rfl
  rw[nDigits_big h,U,dif_neg h,jA,ih (n/10) C];rfl
theorem WY(n:Nat):∀d,jA (nDigits n+d) n=ο d 48++U n
 |0=>by rw[Nat.add_zero,aHP];rfl
 |d+1=>by have h1:=lt_pow_nDigits n;have h2:10^nDigits n<=10^(nDigits n+d):=Ej Yc C;rw[<-Ew,JF _ _ (Dz h1 h2),WY n d];rfl
theorem wV{n k}(hk:0<k)(h:n<10^k):nDigits n<=k:=by
 induction k generalizing n with
 |zero=>omega
 |succ k ih=>
  by_cases hn:n<10
  .rw[nDigits_small hn];omega
  rw[nDigits_big hn];rw[Cg] at h;rcases Bj k with h0|h0
  .subst h0;simp at h;omega
  have:=ih h0 (n:=n/10) C;omega
theorem aFo{n k}(h:10^k<=n):k+1<=nDigits n:=by
 have:=lt_pow_nDigits n;rcases Ar k (nDigits n) with h1|h1
 .exact h1
 have h2:10^nDigits n<=10^k:=Ej Yc h1;omega
theorem aDA(K W F)(hK:0<K)(hF:F<10^K):ο (K+1-nDigits (W*10^K+F)) 48++U (W*10^K+F)=U W++jA K F:=by
 rcases Bj W with h|h
 .subst h;rw[Gn,Ah];have h1:=wV hK hF;rw[<-WY,show nDigits F+(K+1-nDigits F)=K+1 by omega,JF _ _ hF];rw[U,dif_pos Yc];rfl
 have h1:K+1<=nDigits (W*10^K+F):=aFo (by have:=Io (10^K) h;omega);rw[show K+1-nDigits (W*10^K+F)=0 by omega,U2 K W F h hF];rfl
def fRest(R i:Nat):Nat:=R*10^i%4294967296
def jZ(R i:Nat):Nat:=R*10^i/4294967296
theorem aGR(R i):jZ R (i+1)=10*jZ R i+fRest R i*10/4294967296:=by unfold jZ fRest;rw[Cg, <-Cu];omega
theorem CQ(R i):fRest R (i+1)=fRest R i*10%4294967296:=by unfold fRest;rw[Cg, <-Cu];omega
theorem aAz(R i):fRest R i<4294967296:=qN _ Yc
theorem aGQ(R i):fRest R i*10/4294967296<10:=by have:=aAz R i;omega
theorem JE(R i):jA (i+1) (jZ R (i+1))=jA i (jZ R i)++[PV (fRest R i*10/4294967296)]:=by have:=aGQ R i;rw[jA,aGR,show (10*jZ R i+fRest R i*10/4294967296)/10=jZ R i by omega,show (10*jZ R i+fRest R i*10/4294967296)%10=fRest R i*10/4294967296 by omega]
theorem aAy(R):fRest R 32=0:=by
 unfold fRest;have e:(10:Nat)^32=23283064365386962890625*4294967296:=by decide
 rw[e, <-Cu];obtain⟨z,ez⟩:∃z,R*23283064365386962890625=z:=⟨_,rfl⟩;rw[ez];clear ez e;omega
theorem J9(R i:Nat)(h:fRest R i=0):∀d,fRest R (i+d)=0/\jA (i+d) (jZ R (i+d))=jA i (jZ R i)++ο d 48
 |0=>⟨h,by simp⟩
 |d+1=>by
  obtain⟨h1,h2⟩:=J9 R i h d;refine⟨?_,?_⟩
  .rw[<-Ew,CQ,h1]
  rw[<-Ew,JE,h1,h2,Ce,List.replicate_succ'];rfl
theorem aSZ(R i)(h:fRest R i≠0)(h1:fRest R (i+1)=0):PV (fRest R i*10/4294967296)≠48:=by intro e;have h2:=(aJO (aGQ R i)).1 e;clear e;rw[CQ] at h1;obtain⟨r,er⟩:∃r,fRest R i=r:=⟨_,rfl⟩;rw[er] at h h1 h2;clear er;omega
end
section
open Go.RowKit
theorem aRL:(Tryz.prog.info? 5).map (λi=>(i.zero,i.size,i.bytes))=O (O (.int .u8 0),1,1):=Yl
def mJ(l:Y UInt8):Y Value:=l.map λb=>X .u8 b.toNat
theorem CE(l m):mJ (l++m)=mJ l++mJ m:=Cb
theorem aET(l):(mJ l).length=l.length:=Ao _
variable{v:Value}{w:η}
theorem YZ{base n}{l}(h:w.ownsRow base 5 1 v n (mJ l))(hn:0<n)(hl:l.length=n):(convert 65 9 v).run T w=.ok (.string ⟨l.toArray⟩) w:=by
 have h0:=h;rcases h.2 with ⟨_,h1⟩|⟨g,cap,cur,rfl, -, -, -, -, -, -⟩
 .omega
 subst hl;refine run_convert_bytes_back w 65 9 5 ⟨g,0,N⟩ cap l Cz Hq Ev (λk hk=>?_);rw[Lib.add_plain,Ah,h0.cellAt k C];unfold mJ;rw[Bu,Bf hk];rfl
variable{xs:Y Value}
theorem aHO{base e n:Nat}(h:w.ownsRow base e 1 v n xs):∃(ao:Option Addr) (cv:Nat),v=.slice ao n cv:=by
 rcases h.2 with ⟨h1,h2⟩|⟨g,cap,cur,h1, -⟩
 .exact⟨N,0,by rw[h1,h2]⟩
 exact⟨_,_,h1⟩
theorem aCY{B}{a w'}{e size n:Nat}(h:Below B a w)(ho:w.ownsRow B e size v n xs)(hB:B<=w.heap.size)(hg:w.grownBy w' v.ownBlock):Below B a w':=
 h.grown hg hB (λk hk=>(ho.lt k hk).1)
theorem aAG(R:Nat)(hR:0<R)(hR1:R<4294967296)(w):ε T 29 #[.int .u64 R] w λe w'=>∃i,i<=31/\fRest R i≠0/\fRest R (i+1)=0/\e=.returned (.string ⟨(jA (i+1) (jZ R (i+1))).toArray⟩)/\Below w.heap.size w w':=by
 obtain⟨i0,hi,hz0,hz1,hz2⟩:=Ef aRL;have e0:fRest R 0=R:=by unfold fRest;rw[He,Cs];exact Ht hR1
 go_in;go_wp2_with fail;go_loopg [0,3] 32 (λgk rs v wr=>∃(i:Nat) (ao:Option Addr) (cv:Nat),gk=32-i/\i<=32/\rs=X .u64 ((fRest R i:Nat):G)/\v=ζ ao i cv/\wr.ownsRow w.heap.size 5 1 v i (mJ (jA i (jZ R i)))/\(∀j,j<i->fRest R j≠0)/\Below w.heap.size w wr);case atStart=>exact⟨0,N,0,rfl,Xz _,by rw[e0],rfl,Am _ _ _ _,λj hj=>θ hj C,Af _ _⟩
 case round=>
  obtain⟨i,ao,cv,rfl,h32,rfl,rfl,hown,hall,hnx⟩:=hrel;have HALL:=I hall;have HNX:=I hnx;have hsize:=hnx.size;clear hall hnx;obtain⟨r,er⟩:∃r,fRest R i=r:=⟨_,rfl⟩;have hr:r<4294967296:=by rw[<-er];exact aAz R i
  have ER:=I er;rw[er];clear er;rcases Bj r with h0|h0
  .subst h0;have hi0:i≠0:=by rintro rfl;have:=E ER;omega
   obtain⟨k,rfl⟩:∃k,i=k+1:=⟨i-1,C⟩;have hcv:=YZ hown C (pR _ _);have hne:(((0:Nat):G)!=0)=false:=rfl;go_wp2_with fail;go_ret;exact⟨k,C,E HALL k C,E ER,M,E HNX⟩
  .have hne:((r:G)!=0)=true:=by simp;omega
   have hd:r*10/4294967296<10:=C;have h32':i≠32:=by rintro rfl;have:=E ER;rw[aAy] at this;omega
   have em:bits .and .u64 ((r:G)*10) 4294967295=(((r*10%4294967296:Nat)):G):=by have:=M64.maskN (r*10) C;rw[<-this];rfl
   obtain⟨d,ed⟩:∃d,r*10/4294967296=d:=⟨_,rfl⟩;have ed':(r:G)*10/4294967296=(d:G):=C;have hd':d<10:=C;have HE:=I (And.intro ed em);clear ed;go_wp2_with (first
    |(at_builtin;refine wpList_append_own _ M _ _ 65 M w.heap.size 5 i0 (X .u8 0) 1 1 Cz hi hz0 hz1 hz2 M Yc _ _ _ M (hown.alloc _) ⟨wr.heap.size,0,N⟩ 1 1 [X .u8 (48+(d:G))] M M (cell_one_new _ _ _) (λx hx=>by simp at hx;subst hx;rfl) Ym C (by simp;omega) ?_;intro v' w3 hown' hgrow3 hnil3))
   go_roundg (32-(i+1));case measure=>omega
   case rel=>
    obtain⟨ao',cv',hv'⟩:=aHO hown';refine⟨i+1,ao',cv',M,C,?_,hv',?_,?_,?_⟩
    .rw[CQ,E ER];rfl
    .rw[JE,CE,E ER,(E HE).1];show w3.ownsRow _ _ _ _ _ (_++[X .u8 ((PV d).toNat:G)]);rw[WK hd'];exact hown'
    .intro j hj;rcases Ar j i with h|h
     .exact E HALL j h
     obtain rfl:j=i:=C;rw[E ER];omega
    .exact aCY ((E HNX).alloc hsize _) (hown.alloc _) (by simp;omega) hgrow3
end
section
open Go.RowKit Go.Lib
def TextOf(m:Nat)(l:Y UInt8):Prop:=
 (m%4294967296=0/\l=U (m/4294967296))\/
 ∃i,i<=31/\fRest (m%4294967296) i≠0/\fRest (m%4294967296) (i+1)=0/\l=U (m/4294967296)++46::jA (i+1) (jZ (m%4294967296) (i+1))
variable{l:Y UInt8}
theorem TextOf.one{m}{l'}(h:TextOf m l)(h':TextOf m l'):l=l':=by
 have zero:∀R i,R=0->fRest R i=0:=λR i h=>by subst h;unfold fRest;rw[Gn]
 rcases h with ⟨h1,h2⟩|⟨i,hi,h1,h2,h3⟩<;>rcases h' with ⟨k1,k2⟩|⟨j,hj,k1,k2,k3⟩
 .rw[h2,k2]
 .exact θ (zero _ j h1) k1
 .exact θ (zero _ i k1) h1
 have hij:i=j:=by
  rcases uG i j with h|h|h
  .obtain⟨d,rfl⟩:∃d,j=i+1+d:=⟨j-(i+1),C⟩;exact θ (J9 _ _ h2 d).1 k1
  .exact h
  obtain⟨d,rfl⟩:∃d,i=j+1+d:=⟨i-(j+1),C⟩;exact θ (J9 _ _ k2 d).1 h1
 subst hij;rw[h3,k3]
def rD(a:G):Y UInt8:=if a<0 then [45] else []
theorem aMa (a ) (ha : R64 a) (w ) (htab : Lib.TabIs Tryz.prog w "internal/strconv.uint64pow10" .u64 Lib.pow10Tab) :
  ε T 7 #[X .i64 a] w λe w'=>∃l,TextOf (absZ a).toNat l/\e=.returned (.string ⟨(rD a++l).toArray⟩)/\Below w.heap.size w w':=by
 have HA:=I ha;have HT:=I htab;have hab:=jB ha;obtain⟨m,em⟩:∃m:Nat,absZ a=m:=⟨(absZ a).toNat,C⟩;rw[em] at hab;rw[show (absZ a).toNat=m by rw[em];rfl];have EM:=I em;obtain⟨W,eW⟩:∃W:Nat,m/4294967296=W:=⟨_,rfl⟩;obtain⟨R,eR⟩:∃R:Nat,m%4294967296=R:=⟨_,rfl⟩;have eW':(m:G)/4294967296=(W:G):=C;have eR':bits .and .u64 (m:G) 4294967295=(R:G):=by rw[M64.maskN m C,eR]
 have hW:W<18446744073709551616:=C;have hR:R<4294967296:=C;have hm0:(0:G)<=m:=C;have hm1:(m:G)<18446744073709551616:=C;have TO:=I (show TextOf m=λl=>(R=0/\l=U W)\/∃i,i<=31/\fRest R i≠0/\fRest R (i+1)=0/\l=U W++46::jA (i+1) (jZ R (i+1)) from by funext l;unfold TextOf;rw[eW,eR]);clear ha htab em eW eR hab;go_in;go_wp2_with fail;refine (P5 a (E HA) _).mono ?_;rintro e w1 ⟨rfl,rfl⟩;rw[E EM];go_wp2_with fail;refine (UL W hW _ (E HT)).mono ?_;rintro e w2 ⟨rfl,k2⟩;have K2:=I k2;clear k2;have hS:(⟨(U W).toArray⟩:V).size<=20:=by show (U W).toArray.size<=20;rw[Co,decDigits_length];exact wV Yc C
 obtain⟨S,eS⟩:∃S:V,(⟨(U W).toArray⟩:V)=S:=⟨_,rfl⟩;rw[eS] at hS ⊢;have ES:=I eS;clear eS;have hcat:=λwx=>run_string_add_sum (P:=T) (w:=wx) ⟨#[45]⟩ S (by show 1+S.size<=_;omega);obtain⟨S2,eS2⟩:∃S2:V,(⟨#[45]⟩:V)++S=S2:=⟨_,rfl⟩;rw[eS2] at hcat;have ES2:=I eS2;clear eS2;rcases Cm a 0 with h|h;have MN:=I (show rD a=[45] from δ h);have hS2:S2.size<=21:=by rw[<-E ES2,ByteArray.size_append];show 1+S.size<=21;omega
 have ET:=I (show S2=⟨(rD a++U W).toArray⟩ from by rw[<-E ES2, <-E ES,E MN];exact Iw [45] _);have hdot:=λwx=>run_string_add_sum (P:=T) (w:=wx) S2 ⟨#[46]⟩ (by show S2.size+1<=_;omega);obtain⟨S3,eS3⟩:∃S3:V,S2++(⟨#[46]⟩:V)=S3:=⟨_,rfl⟩;rw[eS3] at hdot;have ES3:=I eS3;have hS3:S3.size<=22:=by rw[<-eS3,ByteArray.size_append];show S2.size+1<=22;omega
 rotate_left;have MN:=I (show rD a=[] from γ C);have hnd:decide (a<0)=false:=Xf C;have ET:=I (show S=⟨(rD a++U W).toArray⟩ from by rw[<-E ES,E MN];rfl);have hdot:=λwx=>run_string_add_sum (P:=T) (w:=wx) S ⟨#[46]⟩ (by show S.size+1<=_;omega);obtain⟨S3,eS3⟩:∃S3:V,S++(⟨#[46]⟩:V)=S3:=⟨_,rfl⟩;rw[eS3] at hdot;have ES3:=I eS3;have hS3:S3.size<=22:=by rw[<-eS3,ByteArray.size_append];show S.size+1<=22;omega
 rotate_left;all_goals
  clear eS3;rcases Bj R with h0|h0
  .have hz:((R:G)==0)=true:=by simp;omega
   have H0:=I h0;clear h0;go_wp2_with fail;go_ret;refine⟨U W,?_,?_,E K2⟩
   .rw[E TO];exact Aa ⟨E H0,M⟩
   rw[<-E ET];rfl
  .have hz:((R:G)==0)=false:=by simp;omega
   go_wp2_with fail;refine (aAG R h0 hR _).mono ?_;rintro e w3 ⟨i,i31,f1,f2,rfl,k3⟩;have hF:(⟨(jA (i+1) (jZ R (i+1))).toArray⟩:V).size<=32:=by show (jA (i+1) (jZ R (i+1))).toArray.size<=32;rw[Co,pR];omega
   have K3:=I ((E K2).trans (k3.mono (E K2).size));have FF:=I (And.intro f1 f2);obtain⟨F,eF⟩:∃F:V,(⟨(jA (i+1) (jZ R (i+1))).toArray⟩:V)=F:=⟨_,rfl⟩;rw[eF] at hF ⊢;have EF:=I eF;have hend:=λwx=>run_string_add_sum (P:=T) (w:=wx) S3 F C;clear eF f1 f2 k3;obtain⟨S4,eS4⟩:∃S4:V,S3++F=S4:=⟨_,rfl⟩;rw[eS4] at hend;have ES4:=I eS4;clear eS4;go_wp2_with fail;go_ret;refine⟨U W++46::jA (i+1) (jZ R (i+1)),?_,?_,E K3⟩
   .rw[E TO];exact Ab ⟨i,i31,(E FF).1,(E FF).2,M⟩
   show Ending.returned (Value.string S4)=_;rw[<-E ES4, <-E ES3, <-E EF,E ET,Iw (rD a++U W) [46],Iw];simp[List.append_assoc]
def qA(c:UInt8):Bool:=decide (48<=c.toNat)&&decide (c.toNat<=57)
theorem xN(c):qA c=true↔48<=c.toNat/\c.toNat<=57:=by unfold qA;simp
def lH(l:Y UInt8):Bool:=l.all qA&& !l.isEmpty
def decV(l:Y UInt8):Nat:=l.foldl (λn c=>n*10+(c.toNat-48)) 0
theorem GQ(l)(c):decV (l++[c])=decV l*10+(c.toNat-48):=by unfold decV;rw[List.foldl_append];rfl
variable{k:Nat}
theorem JU(hk:k<l.length):l.take (k+1)=l.take k++[l[k]]:=(Fw hk).symm
theorem sG(l:Y UInt8):(⟨l.toArray⟩:V).size=l.length:=by show l.toArray.size=_;rw[Co]
theorem JO(l:Y UInt8)(k:Nat)hk(w):(Instr.index 9 (.string ⟨l.toArray⟩) (.int .i64 k)).run T w=.ok (.int .u8 (l[k].toNat)) w:=by rw[run_index_string _ _ _ _ _ Ev,dif_pos (by rw[sG];omega)];rfl
theorem I6(l)(hl:l.length<=9223372036854775807)(w):ε T 202 #[.string ⟨l.toArray⟩] w λe w'=>e=.returned (.bool (lH l))/\w'=w:=by
 have hS:=sG l;have hat:=JO l;have HAT:=I hat;obtain⟨n,en⟩:∃n,l.length=n:=⟨_,rfl⟩;rw[en] at hS hl;obtain⟨S,eS⟩:∃S:V,(⟨l.toArray⟩:V)=S:=⟨_,rfl⟩;rw[eS] at hS ⊢;have EN:=I en;have ES:=I eS;clear en eS hat;go_in;go_wp2_with fail;go_loopg [3,6] n (λgk _ ks wx=>∃k:Nat,gk=n-k/\k<=n/\ks=X .i64 (k:G)/\(∀j,j<k->∀h:j<l.length,qA (l[j]'h)=true)/\w=wx);case atStart=>exact⟨0,rfl,Xz _,rfl,λj hj=>θ hj C,rfl⟩
 case round=>
  obtain⟨k,rfl,hk,rfl,hall,rfl⟩:=hrel;have HALL:=I hall;clear hall;by_cases hkn:k<n
  .have hkl:k<l.length:=by rw[E EN];exact hkn
   have hix:=λwx=>E HAT k hkl wx;rw[E ES] at hix;obtain⟨c,ec⟩:∃c:Nat,(l[k]).toNat=c:=⟨_,rfl⟩;rw[ec] at hix;have EC:=I ec;have hki:(k:G)<(n:G):=C;have hc256:c<256:=by rw[<-ec];exact UInt8.toNat_lt _
   by_cases hd:48<=c/\c<=57
   .obtain⟨hd1,hd2⟩:=hd;have b1:decide ((c:G)<48)=false:=Xf C;have b2:decide ((57:G)<(c:G))=false:=Xf C;clear ec;go_wp2_with fail;go_roundg (n-(k+1));case measure=>omega
    case rel=>
     refine⟨k+1,M,C,by go_num,?_,M⟩;intro j hj h;rcases Ar j k with h1|h1
     .exact E HALL j h1 h
     .obtain rfl:j=k:=C;rw[xN,E EC];exact⟨hd1,hd2⟩
   have FIN:=I (show lH l=false from by
    unfold lH;have:l.all qA=false:=by rw[List.all_eq_false];exact⟨l[k],Dj _,by rw[xN,ec];exact hd⟩
    rw[this];rfl)
   clear ec;rcases (show c<48\/57<c by omega) with h1|h1
   .have b1:decide ((c:G)<48)=true:=Xt C;clear hd;go_wp2_with fail;go_ret;rw[E FIN];exact⟨M,M⟩
   have b1:decide ((c:G)<48)=false:=Xf C;have b2:decide ((57:G)<(c:G))=true:=Xt C;clear hd;go_wp2_with fail;go_ret;rw[E FIN];exact⟨M,M⟩
  .obtain rfl:k=n:=C;have hki:¬(k:G)<(k:G):=C;have FIN:=I (show lH l= !l.isEmpty from by
    unfold lH;have:l.all qA=true:=by rw[Cj];intro c hc;obtain⟨j,hj,rfl⟩:=Iy.1 hc;exact E HALL j (by rw[<-E EN];exact hj) hj
    rw[this];rfl)
   go_wp2_with fail;go_ret;refine⟨?_,M⟩;show Ending.returned (Value.bool (!S.toList.isEmpty))=_;rw[E FIN,Lib.toList_data, <-E ES]
def wholeV(l:Y UInt8):Nat:=if decV l<=2147483649 then decV l else 2147483649
theorem aDC(l)(c)(d)(hd:c.toNat-48=d):wholeV (l++[c])=if wholeV l*10+d<=2147483649 then wholeV l*10+d else 2147483649:=by
 unfold wholeV;rw[GQ,hd]
 repeat' split
 all_goals omega
theorem JY(l):wholeV l<=2147483649:=by unfold wholeV;split<;>omega
theorem YS(l)(hl:l.length<=9223372036854775807)(hd:l.all qA=true)(w):ε T 204 #[.string ⟨l.toArray⟩] w λe w'=>e=.returned (.int .u64 (wholeV l))/\w'=w:=by
 have hS:=sG l;have HAT:=I (JO l);have HD:=I hd;obtain⟨n,en⟩:∃n,l.length=n:=⟨_,rfl⟩;rw[en] at hS hl;obtain⟨S,eS⟩:∃S:V,(⟨l.toArray⟩:V)=S:=⟨_,rfl⟩;rw[eS] at hS ⊢;have EN:=I en;have ES:=I eS;clear en eS hd;go_in;go_wp2_with fail;go_loopg [3,4,7] n (λgk ns _ ks wx=>∃k:Nat,gk=n-k/\k<=n/\ks=X .i64 (k:G)/\ns=X .u64 (wholeV (l.take k):G)/\w=wx);case atStart=>exact⟨0,rfl,Xz _,rfl,rfl,rfl⟩
 case round=>
  obtain⟨k,rfl,hk,rfl,rfl,rfl⟩:=hrel;obtain⟨v,ev⟩:∃v,wholeV (l.take k)=v:=⟨_,rfl⟩;have hv:v<=2147483649:=by rw[<-ev];exact JY _
  rw[ev];have EV:=I ev;clear ev;by_cases hkn:k<n
  .have hkl:k<l.length:=by rw[E EN];exact hkn
   have hix:=λwx=>E HAT k hkl wx;rw[E ES] at hix;have hdd:=(xN l[k]).1 (Cj.1 (E HD) _ (Dj hkl));have HTK:=I (JU hkl);obtain⟨c,ec⟩:∃c:Nat,(l[k]).toNat=c:=⟨_,rfl⟩;rw[ec] at hix hdd;have HNX:=I (show wholeV (l.take (k+1))=if v*10+(c-48)<=2147483649 then v*10+(c-48) else 2147483649 from by rw[E HTK,aDC _ _ (c-48) (by rw[ec]),E EV]);obtain⟨hd1,hd2⟩:=hdd;have hki:(k:G)<(n:G):=C;obtain⟨d,rfl⟩:∃d,c=d+48:=⟨c-48,C⟩;rw[show d+48-48=d by omega] at HNX;clear ec;go_wp2_with fail;go_roundg (n-(k+1));case measure=>omega
   case rel=>
    refine⟨k+1,M,C,by go_num,?_,M⟩;rw[E HNX];congr 1;split<;>omega
  .obtain rfl:k=n:=C;have hki:¬(k:G)<(k:G):=C;go_wp2_with fail;go_ret;refine⟨?_,M⟩;rw[<-E EV,Hy (by rw[E EN];exact Xr _)];rfl
theorem aDe(l)(hl:l.length<=9223372036854775807)(w):ε T 201 #[.string ⟨l.toArray⟩] w λe w'=>e=.returned (.bool (lH l&&(l==[48]||l.head? !=O 48)))/\w'=w:=by
 have HL:=I hl;have hS:=sG l;cases hdg:lH l
 .go_in;go_wp2_with fail;refine (I6 l (E HL) _).mono ?_;rintro e w1 ⟨rfl,rfl⟩;rw[hdg];go_wp2_with fail;go_ret;exact⟨M,M⟩
 have HDG:=I hdg;obtain⟨c,t,rfl⟩:∃c t,l=c::t:=by
  cases l with
  |nil=>cases hdg
  |cons c t=>exact⟨c,t,rfl⟩
 have hix:∀wx:η,(Instr.index 9 (.string ⟨(c::t).toArray⟩) (X .i64 0)).run T wx=.ok (X .u8 (c.toNat:G)) wx:=λwx=>JO (c::t) 0 (by simp) wx;have hisd:=λwx=>I6 (c::t) (E HL) wx;rw[hdg] at hisd;have hlist:(⟨(c::t).toArray⟩:V).toList=c::t:=by rw[Lib.toList_data]
 obtain⟨S,eS⟩:∃S:V,(⟨(c::t).toArray⟩:V)=S:=⟨_,rfl⟩;rw[eS] at hS hix hisd hlist ⊢;obtain⟨cn,ecn⟩:∃cn:Nat,c.toNat=cn:=⟨_,rfl⟩;rw[ecn] at hix;have HISD:=I hisd;have EHD:=I (show ((cn:G)!=48)=((c::t).head? !=O 48) from by
  rw[<-ecn];show ((c.toNat:G)!=48)=(O c !=O 48);by_cases h:c=48
  .subst h;rfl
  have h2:c.toNat≠48:=λe=>h (Fx.1 e);have e1:((c.toNat:G)!=48)=true:=by simp;omega
  have e2:(O c !=O 48)=true:=by simp[h]
  rw[e1,e2])
 have hlen:S.size=t.length+1:=hS;obtain⟨tl,etl⟩:∃tl,t.length=tl:=⟨_,rfl⟩;rw[etl] at hlen;clear hdg hisd hS ecn eS etl;cases hq:(c::t==[48])
 .have hb:(S.toList==[48])=false:=by rw[hlist];exact hq
  have HQ:=I hq;clear hlist hq;go_in;go_wp2_with fail;refine (E HISD _).mono ?_;rintro e w1 ⟨rfl,rfl⟩;go_wp2_with fail;go_ret;refine⟨?_,M⟩;rw[<-E EHD];rfl
 have hb:(S.toList==[48])=true:=by rw[hlist];exact hq
 have HQ:=I hq;clear hlist hq;go_in;go_wp2_with fail;refine (E HISD _).mono ?_;rintro e w1 ⟨rfl,rfl⟩;go_wp2_with fail;go_ret;exact⟨M,M⟩
structure Dg (w:η) (g n:Nat) (d:Nat->Nat):Prop where
 cell:∀j,j<n->w.cell? ⟨g,j,N⟩=O (X .u8 ((48+d j:Nat):G))
 free:∀j,j<n->w.frozen? ⟨g,j,N⟩=false
 dig:∀j,d j<10
def EO(d:Nat->Nat)(k x:Nat):Nat->Nat:=λj=>if j=k then x else d j
theorem XV(d:Nat->Nat)(k x):EO d k x k=x:=δ rfl
theorem FC(d:Nat->Nat){j}(x)(h:j≠k):EO d k x j=d j:=γ h
variable{d:Nat->Nat}{n:Nat}
theorem Dg.set{w}{g}(h:Dg w g n d)(hk:k<n){x}(hx:x<10):Dg (w.setCell ⟨g,k,N⟩ (.int .u8 ((48+x:Nat)))) g n (EO d k x):=by
 refine⟨λj hj=>?_,λj hj=>?_,λj=>?_⟩
 .by_cases e:j=k
  .subst e;rw[XV];exact World.cell?_setCell_same _ _ _ (h.cell j hj)
  rw[FC _ _ e,World.cell?_setCell_other _ _ _ _ (by intro e2;cases e2;exact e M)];exact h.cell j hj
 .rw[World.frozen?_setCell];exact h.free j hj
 unfold EO;split
 .exact hx
 exact h.dig j
def jM(d:Nat->Nat)(n:Nat):Nat->Nat
 |0=>0
 |k+1=>jM d n k+d (n-1-k)*10^k
theorem CX{e:Nat->Nat}:∀{k:Nat},k<=n->(∀j,n-k<=j->j<n->d j=e j)->jM d n k=jM e n k
 |0,_,_=>rfl
 |k+1,hk,h=>by unfold jM;rw[CX C (λj h1 h2=>h j C h2),h (n-1-k) C C]
theorem BD(h:∀j,d j<10)(k):jM d n k<10^k:=by
 induction k with
 |zero=>show 0<1;decide
 |succ k ih=>show jM d n k+d (n-1-k)*10^k<_;have h1:=h (n-1-k);have h2:=Io (10^k) (show d (n-1-k)<=9 by omega);rw[Cg];omega
theorem aKs{e:Nat->Nat}{c x}(hk:k<n)(h:jM e n k+c*10^k=2*jM d n k)(hx:d (n-1-k)=x):jM (EO e (n-1-k) ((2*x+c)%10)) n (k+1)+(2*x+c)/10*10^(k+1)=2*jM d n (k+1):=by
 show jM (EO e (n-1-k) ((2*x+c)%10)) n k+EO e (n-1-k) ((2*x+c)%10) (n-1-k)*10^k+_=2*(jM d n k+d (n-1-k)*10^k);rw[XV,CX (e:=e) C (λj h1 h2=>FC _ _ C),hx,Cg];have e1:(2*x+c)%10*10^k+(2*x+c)/10*(10^k*10)=(2*x+c)*10^k:=by rw[Dk (10^k) 10, <-Cu, <-iN];congr 1;omega
 have e2:(2*x+c)*10^k=2*(x*10^k)+c*10^k:=by rw[iN,Cu]
 omega
theorem PW(bd gd n cv)d(w)(hn:n<=60)(hc:w.cell? ⟨bd,0,N⟩=O (.slice (O ⟨gd,0,N⟩) n cv))(hne:bd≠gd)(hd:Dg w gd n d):ε T 233 #[.pointer (O ⟨bd,0,N⟩)] w λe w'=>∃(c:Nat) (d':Nat->Nat),e=.returned (.int .u64 c)/\c<=1/\Dg w' gd n d'/\jM d' n n+c*10^n=2*jM d n n/\(∀a,a.block≠gd->w'.cell? a=w.cell? a)/\(∀B,B<=gd->B<=w.heap.size->Below B w w'):=by
 have HC:=I hc;have HD:=I hd;clear hd;go_in;go_wp2_with fail;clear hc;go_loopg [2,3,4] n (λgk cs is _ wx=>∃(c:Nat) (e:Nat->Nat),cs=X .u8 (c:G)/\is=X .i64 ((gk:G)-1)/\gk<=n/\c<=1/\Dg wx gd n e/\jM e n (n-gk)+c*10^(n-gk)=2*jM d n (n-gk)/\(∀j,j<gk->e j=d j)/\(∀a:Addr,a.block≠gd->wx.cell? a=w.cell? a)/\(∀B,B<=gd->B<=w.heap.size->Below B w wx));case atStart=>exact⟨0,d,rfl,rfl,Xr _,by decide,E HD,by rw[Gh];rfl,λ_ _=>rfl,λ_ _=>rfl,λB _ _=>Af _ _⟩
 case round=>
  obtain⟨c,e,rfl,rfl,hgk,hc1,hDe,hv,hsame,hcell,hbl⟩:=hrel;have HDE:=I hDe;have HV:=I hv;have HSM:=I hsame;have HCL:=I hcell;have HBL:=I hbl;have hcd:=(hcell ⟨bd,0,N⟩ hne).trans (E HC);clear hDe hv hsame hcell hbl;rcases Bj gk with hz|hz
  .subst hz;go_wp2_with fail;go_ret;exact⟨c,e,M,hc1,E HDE,by have:=E HV;rw[Nat.sub_zero] at this;exact this,E HCL,E HBL⟩
  .obtain⟨j,rfl⟩:∃j,gk=j+1:=⟨gk-1,C⟩;rw[show (((j+1:Nat):G)-1)=(j:G) by omega];obtain⟨x,ex⟩:∃x,d j=x:=⟨_,rfl⟩;have ex2:e j=x:=by rw[E HSM j C,ex]
   have hx:x<10:=by rw[<-ex2];exact (E HDE).dig j
   have cx:=(E HDE).cell j C;rw[ex2] at cx;have fx:=(E HDE).free j C;have hidx:n-1-(n-(j+1))=j:=C;have HST:=I (show jM (EO e j ((2*x+c)%10)) n (n-j)+(2*x+c)/10*10^(n-j)=2*jM d n (n-j) from by have h:=aKs (n:=n) (k:=n-(j+1)) (x:=x) C (E HV) (by rw[hidx];exact ex);rw[hidx,show n-(j+1)+1=n-j by omega] at h;exact h);have EX:=I (And.intro ex ex2);obtain⟨D,eD⟩:∃D:Nat,2*x+c=D:=⟨_,rfl⟩;rw[eD] at HST;have eDi:2*(x:G)+(c:G)=(D:G):=C;have tm:(D:G).tmod 10=((D%10:Nat):G):=by rw[Iq C];omega
   have td:(D:G).tdiv 10=((D/10:Nat):G):=by rw[Ir C];omega
   have hD:D<=19:=C;have ED:=I eD;clear ex ex2 hidx eD;have ew:48+(2*(48+(x:G)-48)+(c:G))%10=((48+D%10:Nat):G):=C;have EW:=I ew;clear ew;go_wp2_with fail;go_roundg j;case measure=>omega
   case rel=>
    rw[E EW];refine⟨D/10,EO e j (D%10),by congr 1;omega,rfl,C,C,(E HDE).set C C,E HST,?_,?_,?_⟩
    .intro i hi;rw[FC _ _ C];exact E HSM i C
    .intro a ha;rw[World.cell?_setCell_other _ _ _ _ (by intro e2;subst e2;exact ha M)];exact E HCL a ha
    .intro B h1 h2;exact (E HBL B h1 h2).setCell h1 _
end
end Go.Proofs.YthimcecbgpamdaaGreatDoor
