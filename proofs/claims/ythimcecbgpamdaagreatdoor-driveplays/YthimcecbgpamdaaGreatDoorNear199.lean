import Derived.Test.YthimcecbgpamdaaGreatDoorNear231
set_option maxHeartbeats 4000000
set_option maxRecDepth 100000
open Go.Proofs.YthimcecbgpamdaaGreatDoor renaming aA->I,hide->J,val->M,Yo->O,absZ->ε,splC->κ,Kept->ν,pow_pos->φ,R64->χ,Row->Δ,vhI->Θ,negZ->Ξ,decV->Ω,SeqJ->á,rowV->ä
open _root_ renaming rfl->Z,Nat->β,if_neg->μ,if_pos->π,absurd->ρ,List->υ,Bool->â,congrArg->ê
open Option renaming none->γ,some->δ
open Go.Proofs.Tryz renaming prog->ζ
open Go.Value renaming int->η,slice->ι,bool->σ,int->ω
open Go renaming Calls->θ,Value->τ,World->ψ,madeCells->Ψ,Oper->à,execOp->ã,Addr->å,bits->æ,yielded->è
open Go.RowKit renaming intOf->ξ,wrap64->ë
open Go.IntKind renaming i64->ο
open Go.Obj renaming cells->Γ
open List renaming range->Λ,isPrefixOf->Φ
open Go.Region renaming wanted->ç
open Go.Ending renaming returned->é
namespace Go.Proofs.YthimcecbgpamdaaGreatDoor
section
open Go.Lib
theorem aIR {c x : UInt8} (h : x ≠ c) (k : β) (l : υ UInt8) : splitK [c] 0 k (x :: l) = match splitK [c] 0 k l with
  |[]=>[[x]]
  |a::r=>(x::a)::r:=by
 cases k with
 |zero=>rfl
 |succ k=>
  have hp:([c]:υ UInt8).isPrefixOf (x::l)=false:=by simp[Φ,Ne.symm h]
  have hix:index (x::l) [c]=if index l [c]== -1 then -1 else index l [c]+1:=by rw[index,hp];simp
  unfold splitK;by_cases hm:index l [c]= -1
  .rw[hix,π (beq_iff_eq.2 hm),π Yc,π (beq_iff_eq.2 hm)]
  have hge:=index_ge l [c];rw[hix,μ (λe=>hm (beq_iff_eq.1 e)),μ (λe=>by have:=beq_iff_eq.1 e;omega),μ (λe=>hm (beq_iff_eq.1 e))];obtain⟨j,hj⟩:∃j:β,index l [c]=j:=⟨(index l [c]).toNat,O⟩;rw[hj,show ((j:Int)+1).toNat=j+1 by omega];simp
theorem aBY(c:UInt8):∀l:υ UInt8,splitK [c] 0 (count l [c]) l=κ c l
 |[]=>by rw[count_miss (by simp[index])];rfl
 |x::l=>by
  by_cases h:x=c
  .subst h;rw[count_cons_eq,Ey 1];unfold splitK κ;have hix:index (x::l) [x]=((0:β):Int):=by rw[index];simp[Φ]
   rw[hix,μ Yc,π Z];show _::splitK [x] 0 _ l=_;rw[aBY x l];rfl
  rw[count_cons_ne x c l h,aIR h,aBY c l]
  conv=>rhs;unfold κ
  rw[μ h];rfl
theorem XP(c)(l):(splitB ⟨#[c]⟩ 0 (countB ⟨l.toArray⟩ ⟨#[c]⟩) ⟨l.toArray⟩).map Value.string=(κ c l).map tV:=by
 have h:=splitB_data ⟨#[c]⟩ 0 (countB ⟨l.toArray⟩ ⟨#[c]⟩) ⟨l.toArray⟩;rw[<-aBY c l];have e:splitK (ByteArray.mk #[c]).data.toList 0 (countB ⟨l.toArray⟩ ⟨#[c]⟩) (ByteArray.mk l.toArray).data.toList=splitK [c] 0 (count l [c]) l:=by simp[countB]
 rw[e] at h;rw[<-h,List.map_map];refine Cw λs _=>?_;show Value.string s=Value.string ⟨s.data.toList.toArray⟩;rw[Array.toArray_toList]
theorem aFV(c)(l):countB ⟨l.toArray⟩ ⟨#[c]⟩+1=(κ c l).length:=by have h:=ê List.length (XP c l);rw[Ao,Ao,splitB_all ⟨#[c]⟩ (Xr 1) 0 _ _ Z] at h;exact h
theorem uB(c:UInt8):∀l:υ UInt8,(κ c l).length<=l.length+1
 |[]=>Xr _
 |x::l=>by
  have ih:=uB c l;unfold κ;split
  .simp only[Ai];omega
  revert ih;cases κ c l with
  |nil=>intro;simp
  |cons a r=>intro ih;simp only[Ai] at ih ⊢;omega
theorem P6(c:UInt8):∀(l:υ UInt8) (a:υ UInt8),a∈κ c l->a.length<=l.length
 |[],a,h=>by rw[κ,Ct] at h;subst h;exact Xr _
 |x::l,a,h=>by
  have ih:=P6 c l;unfold κ at h;split at h
  .rcases Bv.1 h with rfl|h
   .exact Xz _
   have:=ih a h;simp only[Ai];omega
  revert ih h;cases κ c l with
  |nil=>intro _ h;rw[Ct] at h;subst h;simp
  |cons b r=>
   intro ih h;rcases Bv.1 h with rfl|h
   .have:=ih b Ee;simp only[Ai];omega
   have:=ih a (Du _ h);simp only[Ai];omega
end
section
open Go.RowKit Go.Lib
theorem OW(c:UInt8):∀p:υ UInt8,∃Q a,κ c p=Q++[a]/\κ c (p++[c])=Q++[a]++[[]]/\∀x,x≠c->κ c (p++[x])=Q++[a++[x]]
 |[]=>⟨[],[],rfl,by rw[Da,κ,π rfl];rfl,λx h=>by rw[Da,κ,μ h];rfl⟩
 |y::p=>by
  obtain⟨Q,a,h1,h2,h3⟩:=OW c p;by_cases e:y=c
  .refine⟨[]::Q,a,by rw[κ,π e,h1];rfl,by rw[Ez,κ,π e,h2];rfl,λx h=>by rw[Ez,κ,π e,h3 x h];rfl⟩
  cases Q with
  |nil=>exact⟨[],y::a,by rw[κ,μ e,h1];rfl,by rw[Ez,κ,μ e,h2];rfl,λx h=>by rw[Ez,κ,μ e,h3 x h];rfl⟩
  |cons q Q=>exact⟨(y::q)::Q,a,by rw[κ,μ e,h1];rfl,by rw[Ez,κ,μ e,h2];rfl,λx h=>by rw[Ez,κ,μ e,h3 x h];rfl⟩
theorem aCl(Q)(a b):∀j,j<(Q++[a]).length->stW (jE (Q++[a])) Q.length (tV b) j=jE (Q++[b]) j:=λj hj=>by
 rw[Ag] at hj;have hj:j<Q.length+1:=hj;unfold stW jE;by_cases e:j=Q.length
 .rw[π e,e,Bh,Hr (Xr _),Gh];rfl
 rw[μ e,Bh,Bh,Fs O,Fs O]
theorem VV(Q)(a):jE (Q++[a]) Q.length=tV a:=by unfold jE;rw[Bh,Hr (Xr _),Gh];rfl
instance iRdW_0:InfK ζ 59 9 1 16:=InfK.of Tryz.underlying59
variable{c:υ PanicEntry}
theorem dL{p q:Prop}(h:Exit.panic c=Exit.normal/\p):q:=nomatch h.1
section
variable {P:Program} {ops:Array à} {Q:Exit->Act->ψ->Prop} {A:Act} {L:υ (Nat×Value)} {w:ψ} {o:à} {d i:β} {v:τ} {S:ψ->Prop} {late:β->â} {r:PlanJ}
theorem qjN(h:á P ops Q S late r (aV A ((d,v)::L)) w)(ho:ops[i]?=δ o:=by rfl)(hd:o.dst=δ d:=by rfl)(hQ:∀c a w,Q (.panic c) (a.put (δ d) v) w->Q (.panic c) a w:=by exact λ_ _ _ h=>dL h)(hw:ç o (è ops (aV A L).tmps)=true:=by exact Qw)(hy:∀w,(ã (aV A L).eval o).run P w=.ok (.value v) w:=by intro w;exact Qr):á P ops Q S late (.mv i r) (aV A L) w:=dC ho hd hQ hw hy h
theorem qjG(ho:ops[i]?=δ o)(hy:∀w,(ã (aV A L).eval o).run P w=.ok (.value v) w)(h:á P ops Q S late r (aV A ((d,v)::L)) w)(hd:o.dst=δ d:=by rfl)(hQ:∀c a w,Q (.panic c) (a.put (δ d) v) w->Q (.panic c) a w:=by exact λ_ _ _ h=>dL h)(hw:ç o (è ops (aV A L).tmps)=true:=by exact Qw):á P ops Q S late (.mv i r) (aV A L) w:=dC ho hd hQ hw hy h
theorem qrG(ho:ops[i]?=δ o)(hS:S w)(hy:∀w,S w->(ã (aV A L).eval o).run P w=.ok (.value v) w)(h:á P ops Q S late r (aV A ((d,v)::L)) w)(hd:o.dst=δ d:=by rfl)(hQ:∀c a w,Q (.panic c) (a.put (δ d) v) w->Q (.panic c) a w:=by exact λ_ _ _ h=>dL h)(hw:ç o (è ops (aV A L).tmps)=true:=by exact Qw):á P ops Q S late (.rd i r) (aV A L) w:=oD ho hd hQ hw hS hy h
end
section
variable {f:Operand->τ} {o:à}
theorem jR{b}(x y)(ho:o.op=.binOp .eql 5 x y 5){u v}(hx:f x=.int .u8 u)(hy:f y=.int .u8 v)(hb:decide (u=v)=b)(w):(ã f o).run ζ w=.ok (.value (.bool b)) w:=by
 subst hb;unfold ã;rw[ho];dsimp only;rw[hx,hy];go_simp;by_cases h:u=v
 .rw[h];simp
 simp[h]
end
theorem aPn(T)(b):ä (jE T) T.length++ä (jE [b]) 1=ä (jE (T++[b])) (T.length+1):=by
 unfold ä
 conv=>rhs;rw[Hw,Cb]
 congr 1
 .refine Cw λj hj=>?_;have hj:=Df.1 hj;unfold jE;rw[Bh,Bh,Fs hj]
 show [jE [b] 0]=[jE (T++[b]) T.length];rw[VV];rfl
variable{L:υ (Nat×Value)}{Q:Exit->Act->ψ->Prop}{T:υ (υ UInt8)}
theorem aHW{ops:Array à}{A:Act}{w0 w:ψ}{rest:υ à}{o:à}{d g cap h:β}{x y:Operand}{l:υ It}{b:υ UInt8}(H:Cx w0 w (Θ 9 h 1 1 (jE [b])::Θ 9 g T.length cap (jE T)::l))(hT:T.length<=1000000)(hk:∀g' cap' w',Cx w0 w' (Θ 9 g' (T.length+1) cap' (jE (T++[b]))::l)->LstI ζ ops Q rest (aV A ((d,.slice (δ ⟨g',0,γ⟩) (T.length+1) cap')::L)) w')(ho:o.op=.call { callee:=.builtin .append,args:=#[x,y],argTypes:=#[59,59] }:=by rfl)(hx:(aV A L).eval x=.slice (δ ⟨g,0,γ⟩) T.length cap:=by exact Qv)(hy:(aV A L).eval y=.slice (δ ⟨h,0,γ⟩) 1 1:=by exact Qv)(hd:o.dst=δ d:=by rfl)(hw:ç o (è ops (aV A L).tmps)=true:=by exact fE rfl):LstI ζ ops Q (o::rest) (aV A L) w:=by
 have hr:=zU (Vh.owns H.v0 (Xz _));have up:w0.heap.size<=g:=H.up _ (Du _ Ee) g Z;have H1:Cx w0 w (fU w0.heap.size 9 1 (ι (δ ⟨g,0,γ⟩) T.length cap) T.length (ä (jE T) T.length)::l):=H.tl.wk (λm=>Vh.owns m up) (λk e=>(Dp e).symm);refine OE (bytes:=16) H1.a0 hr (λu hu=>?_) Ym O (λv' w' H2=>?_) (ho:=ho) (hs:=hx) (hx:=hy) (hd:=hd) (hw:=hw)
 .obtain⟨j,_,rfl⟩:=Eh.1 hu;rfl
 rw[aPn] at H2;have h2:World.ownsRow _ _ _ _ _ _ _:=H2.o0;obtain⟨g',cap',rfl,_,m⟩:=Vh.of_owns O h2;exact hk g' cap' w' (H2.wk (λ_=>m) (λk e=>by rw[show k=g' from e];rfl))
theorem aGh(l)(hl:l.length<=100000)(w):θ ζ 20 #[tV l] w λe w'=>∃g cap,e=.returned (.slice (δ ⟨g,0,γ⟩) (κ 32 l).length cap)/\Cx w w' [Θ 9 g (κ 32 l).length cap (jE (κ 32 l))]:=by
 refine bC Tryz.func20 Z 33 Z Yd (λA hs hd hb=>?_);have b0:A.eval (.tmp 0)=tV l:=hb 0 _ Z;clear hb;have H:=Bl w;refine aD (aG ?_);refine qa ?_;refine aC<|aD<|bI rfl Yw (λK hK=>Q7 (t0:=[]) rfl rfl ?_);intro w1 m1 k1 z1;replace H:=H.add k1 (Θ _ _ _ _ _) m1 (λj (e:j=_)=>Bq e.symm);refine hK _ _ ?_;clear hK K;refine qa ?_;refine aC<|aH<|aD<|qa ?_;refine aC<|aJ ?_;refine bR (λr A W=>∃(i g cap:β),i<=l.length/\l.length-i<=r/\A.tmps.size=33/\A.defers=[]/\A.eval (.tmp 0)=tV l/\A.eval (.tmp 3)=ι (δ ⟨g,0,γ⟩) (κ 32 (l.take i)).length cap/\A.eval (.tmp 4)=η ο (i:β)/\Cx w W [Θ 9 g (κ 32 (l.take i)).length cap (jE (κ 32 (l.take i)))]) l.length
  ⟨0,_,1,Xz _,O,YA,YB,Qv,Qv,Qv,H⟩ (λr B W hI=>?_)
 clear b0 hs hd H;obtain⟨i,g,cap,hi,hir,hs,hd,b0,b3,b4,H⟩:=hI;refine aH<|aD (aG ?_);iterate 2 refine qa ?_
 refine qg (jS _ Z Qv _) ?_;refine qa ?_;refine aC<|fB (λhc=>?_) (λhc=>?_)
 .have hin:i<l.length:=by have:=Xu hc;omega
  have et:l.take (i+1)=l.take i++[l[i]]:=(Fw hin).symm;have el:l=l.take i++([l[i]]++l.drop (i+1)):=by rw[<-Ce,Fw hin,uV]
  have lt:(l.take i).length=i:=by rw[Ea];omega
  have hsl:=uB 32 (l.take i);obtain⟨Q,a,e1,e2,e3⟩:=OW 32 (l.take i);refine aR<|lS (λA W=>∃(g cap:β),A.tmps.size=33/\A.defers=[]/\A.eval (.tmp 0)=tV l/\A.eval (.tmp 3)=ι (δ ⟨g,0,γ⟩) (κ 32 (l.take (i+1))).length cap/\A.eval (.tmp 4)=η ο (i:β)/\Cx w W [Θ 9 g (κ 32 (l.take (i+1))).length cap (jE (κ 32 (l.take (i+1))))]) ?_ (λC W2 hI=>?_)
  .refine aJ<|aD ?_;iterate 2 refine qa ?_
   refine qg (lK (l:=l) (k:=i) _ _ Z Qv Qv Z hin _) ?_;by_cases hx:l[i]=32
   .refine qg (jR (b:=true) _ _ Z Qv Qv (Xt (by rw[hx];rfl)) _) ?_;refine aC<|aS Qv ?_;refine aI<|qa ?_;refine bI Z Yw (λK hK=>Q7 (t0:=[]) Z Z ?_);intro w2 m2 k2 z2;replace H:=H.add k2 (Θ _ _ _ _ _) m2 (λj (e:j=_)=>Bq e.symm);refine hK _ _ ?_;clear hK K;refine aHW H O ?_;clear H;intro g' cap' w3 H;refine qa ?_;have e4:κ 32 (l.take (i+1))=κ 32 (l.take i)++[[]]:=by rw[et,hx,e2,e1]
    refine kL ⟨Z,g',cap',YA,YB,Qv,?_,Qv,?_⟩
    .rw[e4,Ag];exact Qv
    rw[e4,Ag];exact H
   refine qg (jR (b:=false) _ _ Z Qv Qv (Xf (λh=>hx (Fx.1 (by have h:((l[i].toNat:β):Int)=32:=h;show _=32;omega)))) _) ?_;refine aC<|aO Qv ?_;have e4:κ 32 (l.take (i+1))=Q++[a++[l[i]]]:=by rw[et,e3 _ hx]
   rw[e1] at b3 H;have eQ:∀b:υ UInt8,(Q++[b]).length=Q.length+1:=λb=>Ag;rw[eQ] at b3;have hq:Q.length<=100000:=by rw[e1,eQ] at hsl;omega
   have hla:a.length<=100000:=by have:=P6 32 (l.take i) a (by rw[e1];exact List.mem_append_right _ Ee);omega
   obtain⟨x,hxd⟩:∃x,x=l[i]:=⟨_,rfl⟩;rw[<-hxd] at el e4;replace H:=H.drew;have hS:Its [Θ 9 g (Q++[a]).length cap (jE (Q++[a]))] W.drew:=Aj H.o0 (Ak _);refine fI (S:=Its [Θ 9 g (Q++[a]).length cap (jE (Q++[a]))]) (.mv 0 (.mv 1 (.mv 2 (.mv 3 (.mv 4 (.rd 5 (.mv 6 (.mv 7 (.mv 8 (.mv 9 (.mv 10 (.mv 11 (.mv 12 (.go 13 .fin)))))))))))))) [13] Yl Yl ?_;iterate 3 refine qjN ?_
   refine qjG Z (λw=>(kT _ _ Z Qv Qv O O w).trans (by rw[show ((Q.length+1:β):Int)-1=((Q.length:β):Int) by omega])) ?_;refine qjG Z (λw=>dD (i:=Q.length) _ _ _ _ Z SlcK.out SizK.out Qv Qv Z O w) ?_;refine qrG Z hS (λ_ H=>aT (v:=tV a) _ _ Z OneK.out Qv H.v0 (by rw[eQ];omega) (by rw[show 0+Q.length*1=Q.length by omega,VV])) ?_;iterate 4 refine qjN ?_
   refine qjG Z (λw=>EI (p:=l.take i) (m:=[x]) (q:=l.drop (i+1)) _ _ _ Z (by rw[<-el];exact Qv) Qv Qv (by rw[lt]) (by rw[lt];rfl) w) ?_;refine qjG Z (λw=>gZ _ _ Z Qv Qv (by simp only[Ai,Au];omega) w) ?_;refine qjG Z (λw=>dD (i:=Q.length) _ _ _ _ Z SlcK.out SizK.out Qv Qv Z O w) ?_;refine dK Z Yw (λK hK=>iO _ _ _ _ Z OneK.out Qv Qv H.v0 (by rw[eQ];omega) rfl rfl rfl (λw3 m3 k3 z3=>hK _ (λh=>ρ h Yc) ?_));replace H:=H.a0.s k3 (m3.congr (by rw[show 0+Q.length*1=Q.length by omega];exact aCl Q a (a++[x])));refine BK ⟨Z,g,cap,YA,YB,Qv,?_,Qv,?_⟩
   .rw[e4,eQ];exact Qv
   rw[e4,eQ, <-eQ a];exact H
  clear b0 b3 b4 hs hd H;obtain⟨g',cap',hs,hd,b0,b3,b4,H⟩:=hI;refine aI (aG ?_);repeat refine qa ?_
  exact aU ⟨l.length-(i+1),O,i+1,g',cap',O,O,YA,YB,Qv,Qv,Ae Qv YC,H⟩
 obtain rfl:i=l.length:=by have:=Xg hc;omega
 rw[Hz] at b3 H;refine bL (dQ ?_);refine aD ?_;iterate 2 refine qa ?_
 refine aC ?_;exact aQ (aN YB (bS Z Qv) ⟨g,cap,Z,H⟩)
end
section
open Go.RowKit
theorem mP(b cap n)f(hc:n<=cap)(hm:cap<=1099511627776)(w)(hr:Δ w b n f):θ ζ 173 #[.slice (δ ⟨b,0,γ⟩) n cap] w λe w'=>∃m,e=.returned (.slice (δ ⟨b,0,γ⟩) m cap)/\m<=n/\(∀i,m<=i->i<n->f i=0)/\Nm m f/\w'=w:=by
 have HR:=J hr;clear hr;go_in;go_wp2_with fail;go_loop [3] (λi=>∃m:β,i=η ο m/\m<=n/\∀i,m<=i->i<n->f i=0) (λi=>(ξ i).toNat);case atStart=>exact⟨n,rfl,Xr _,λi hi h2=>by omega⟩
 case round=>
  obtain⟨m,rfl,hm2,hz⟩:=hrel;have HZ:=J hz;clear hz;by_cases h0:m=0
  .subst h0;go_wp2_with fail;go_ret;exact⟨0,Z,O,I HZ,Aa Z,Z⟩
  .obtain⟨k,rfl⟩:∃k,m=k+1:=⟨m-1,O⟩;have hcell:=I HR k O;by_cases hx:f k=0
   .have ht:(f k==0)=true:=by simpa using hx
    have HX:=J hx;clear hx h0;go_wp2_with fail;go_round;case rel=>exact⟨k,by go_num,O,λi hi h2=>by
     rcases Ar k i with h|h
     .exact I HZ i O h2
     have:i=k:=O;subst this;exact I HX⟩
    case measure=>simp[ξ]
   have ht:(f k==0)=false:=by simpa using hx
   have HX:=J hx;clear hx h0;go_wp2_with fail;go_ret;exact⟨k+1,Z,O,I HZ,Ab (I HX),Z⟩
theorem wM(x)(x0:0<=x)(x1:x<18446744073709551616)(w):θ ζ 149 #[.int .u64 x] w λe w'=>∃(v:τ) (m:β) (f:β->Int),e=.returned v/\Sl w' v m f/\Wd m f/\Nm m f/\M f m=x/\Below w.heap.size w w':=by
 go_in;go_wp2_with fail;have hr:Δ (w.alloc (Γ #[η .u32 (x%4294967296),η .u32 (x/4294967296)] 168)) w.heap.size 2 (λi=>if i=0 then x%4294967296 else x/4294967296):=by
  intro i hi;rw[World.cell?_alloc_new]
  match i,hi with
  |0,_=>rfl
  |1,_=>rfl
 refine (mP w.heap.size 2 2 _ Yc Yc _ hr).mono ?_;rintro e w1 ⟨m,rfl,hm,hz,hn,rfl⟩;have hw:Wd 2 (λi=>if i=0 then x%4294967296 else x/4294967296):=by
  intro i hi
  match i,hi with
  |0,_=>exact⟨by show 0<=x%4294967296;omega,by show x%4294967296<4294967296;omega⟩
  |1,_=>exact⟨by show 0<=x/4294967296;omega,by show x/4294967296<4294967296;omega⟩
 have hv:M (λi=>if i=0 then x%4294967296 else x/4294967296) 2=x:=by show 0+x%4294967296*4294967296^0+x/4294967296*4294967296^1=x;simp only[Int.reducePow];omega
 rw[gV hm hz] at hv;have F:=J (show ∃(v:τ) (m':β) (f:β->Int),é (Value.slice (δ ⟨w.heap.size,0,γ⟩) m 2)=é v/\Sl (w.alloc (Γ #[η .u32 (x%4294967296),η .u32 (x/4294967296)] 168)) v m' f/\Wd m' f/\Nm m' f/\M f m'=x/\Below w.heap.size w (w.alloc (Γ #[η .u32 (x%4294967296),η .u32 (x/4294967296)] 168)) from
  ⟨_,m,_,rfl,Ab ⟨w.heap.size,2,rfl,hm,by decide,by simp,hr.less hm⟩,hw.less hm,hn,hv,(Af _ _).alloc (Xr _) _⟩)
 clear hr hw hv hn hz;go_wp2_with fail;go_ret;exact I F
def IntAt(w:ψ)(b:β)(s v:τ):Prop:=w.heap[b]?=δ (Γ #[s,v] 141 (0,0))
variable{b:β}{s v:τ}{w:ψ}
theorem IntAt.cell0(h:IntAt w b s v):w.cell? ⟨b,0,γ⟩=δ s:=by unfold IntAt at h;simp[World.cell?,h]
theorem IntAt.cell1(h:IntAt w b s v):w.cell? ⟨b,1,γ⟩=δ v:=by unfold IntAt at h;simp[World.cell?,h]
theorem IntAt.free(h:IntAt w b s v)(i):w.frozen? ⟨b,i,γ⟩=false:=by unfold IntAt at h;simp[World.frozen?,h]
theorem IntAt.lt(h:IntAt w b s v):b<w.heap.size:=Cq h
variable{w':ψ}{z:β}
theorem IntAt.kept(h:IntAt w b s v)(k:ν z w w')(hz:b≠z):IntAt w' b s v:=by unfold IntAt at h ⊢;rw[k.block b (Cq h) hz];exact h
theorem IntAt.below(h:IntAt w b s v)(k:Below w.heap.size w w'):IntAt w' b s v:=by unfold IntAt at h ⊢;rw[k.block b (Cq h)];exact h
theorem Kept.refl(z)(w):ν z w w:=⟨rfl,rfl,rfl,Xr _,λ_ _ _=>rfl⟩
theorem Kept.setCell{a}(h:ν z a w)(i)(u):ν z a (w.setCell ⟨z,i,γ⟩ u):=
 ⟨h.os,h.tape,h.output,by simpa [World.setCell] using h.size,λk hk hn=>(heap_setCell_other w ⟨z,i,γ⟩ k u hn).trans (h.block k hk hn)⟩
variable{v0:τ}
theorem QN{n0}(hz:IntAt w z n0 v0)(s v):IntAt ((w.setCell ⟨z,1,γ⟩ v).setCell ⟨z,0,γ⟩ s) z s v:=by unfold IntAt at hz ⊢;have h1:=Bz w z 1 _ _ v hz;have h2:=Bz _ z 0 _ _ s h1;exact h2
theorem lZ(z n cap)(ao)(neg)(n0 v0)(w)(hz:IntAt w z n0 v0):θ ζ 150 #[.pointer (δ ⟨z,0,γ⟩),.bool neg,.slice ao n cap] w λe w'=>e=.returned (.pointer (δ ⟨z,0,γ⟩))/\IntAt w' z (.bool (neg&&decide (0<n))) (.slice ao n cap)/\ν z w w':=by
 have c0:=hz.cell0;have c1:=hz.cell1;have f0:=hz.free 0;have f1:=hz.free 1;have HZ:=J hz;clear hz;cases neg
 .go_in;go_wp2_with fail;go_ret;exact⟨Z,QN (I HZ) _ _,((Kept.refl z w).setCell 1 _).setCell 0 _⟩
 go_in;go_wp2_with fail;go_ret;exact⟨Z,QN (I HZ) _ _,((Kept.refl z w).setCell 1 _).setCell 0 _⟩
def Num(w:ψ)(b:β)(x:Int):Prop:=
 ∃(neg:â) (v:τ) (n:β) (f:β->Int),IntAt w b (σ neg) v/\Sl w v n f/\Wd n f/\Nm n f/\x=cK neg (M f n)/\(n=0->neg=false)
variable{f:β->Int}{n:β}{s0:â}
theorem Sl.other(h:Sl w v n f)(k:ν z w w')(hz:IntAt w z (.bool s0) v0):Sl w' v n f:=by
 rcases h with h|⟨b,cap,hv,h1,h2,h3,h4⟩
 .exact Aa h
 rcases Bj n with h0|h0
 .subst h0;exact Ab ⟨b,cap,hv,h1,h2,Dz h3 k.size,λi hi=>ρ hi O⟩
 have hb:b≠z:=by intro e;subst e;have c:=h4 0 h0;rw[hz.cell0] at c;cases c
 exact Ab ⟨b,cap,hv,h1,h2,Dz h3 k.size,h4.same (k.block b h3 hb)⟩
variable{x:Int}
theorem Num.lt(h:Num w b x):b<w.heap.size:=by obtain⟨neg,v,n,f,h, -⟩:=h;exact h.lt
theorem Num.other(h:Num w b x)(k:ν z w w')(hb:b≠z)(hz:IntAt w z (.bool s0) v0):Num w' b x:=by obtain⟨neg,v,n,f,h1,h2,h3,h4,h5,h6⟩:=h;exact⟨neg,v,n,f,h1.kept k hb,h2.other k hz,h3,h4,h5,h6⟩
theorem Num.below(h:Num w b x)(k:Below w.heap.size w w'):Num w' b x:=by obtain⟨neg,v,n,f,h1,h2,h3,h4,h5,h6⟩:=h;exact⟨neg,v,n,f,h1.below k,h2.below k,h3,h4,h5,h6⟩
theorem qL(hw:Wd n f)(hn:Nm n f)(h:n≠0):0<M f n:=by obtain⟨m,rfl⟩:∃m,n=m+1:=⟨n-1,O⟩;have:=aCn hw (by rcases hn with h|h;exact ρ h O;exact h);have:=φ m;omega
theorem jC{neg}(h:IntAt w z (.bool (neg&&decide (0<n))) v)(hs:Sl w v n f)(hw:Wd n f)(hn:Nm n f):Num w z (cK neg (M f n)):=by
 refine⟨_,v,n,f,h,hs,hw,hn,?_,?_⟩
 .rcases Bj n with h0|h0
  .subst h0;cases neg<;>rfl
  rw[Xt h0];simp
 intro h0;subst h0;simp
theorem aBU(z)(x)(hx:χ x)(s0)(v0)(w)(hz:IntAt w z (.bool s0) v0):θ ζ 152 #[.pointer (δ ⟨z,0,γ⟩),.int .i64 x] w λe w'=>e=.returned (.pointer (δ ⟨z,0,γ⟩))/\Num w' z x/\ν z w w':=by
 have HZ:=J hz;obtain⟨a1,a2⟩:=hx;clear hz;by_cases h:x<0
 .have e1:Hid (IntKind.u64.wrap (-IntKind.u64.wrap x)= -x):=by show _=_;rw[Eb,Eb];omega
  go_in;go_wp2_with fail;rw[I e1];refine (wM (-x) O O _).mono ?_;rintro e w1 ⟨v,m,f,rfl,hs,hw,hn,hv,hb⟩;have H1:=J hs;have H2:=J hw;have H3:=J hn;have H4:=J hv;have H5:=J hb;rcases hs with ⟨rfl,rfl⟩|⟨b,cap,rfl, -, -, -, -⟩;all_goals
   clear hw hn hv hb;go_wp2_with fail;refine (lZ z _ _ _ true _ _ _ ((I HZ).below (I H5))).mono ?_;rintro e w2 ⟨rfl,hi,hk⟩;have F:=J (show Num w2 z x/\ν z w w2 from by
    have hsl:=(I H1).other hk ((I HZ).below (I H5));have hnum:=jC hi hsl (I H2) (I H3);rw[I H4] at hnum;have e2:cK true (-x)=x:=by show- -x=x;omega
    rw[e2] at hnum;exact⟨hnum,(Ch (I H5)).trans hk (Aa Z)⟩)
   clear hi hk;go_wp2_with fail;go_ret;exact⟨Z,(I F).1,(I F).2⟩
 go_in;go_wp2_with fail;refine (wM x O O _).mono ?_;rintro e w1 ⟨v,m,f,rfl,hs,hw,hn,hv,hb⟩;have H1:=J hs;have H2:=J hw;have H3:=J hn;have H4:=J hv;have H5:=J hb;rcases hs with ⟨rfl,rfl⟩|⟨b,cap,rfl, -, -, -, -⟩;all_goals
  clear hw hn hv hb;go_wp2_with fail;refine (lZ z _ _ _ false _ _ _ ((I HZ).below (I H5))).mono ?_;rintro e w2 ⟨rfl,hi,hk⟩;have F:=J (show Num w2 z x/\ν z w w2 from by have hsl:=(I H1).other hk ((I HZ).below (I H5));have hnum:=jC hi hsl (I H2) (I H3);rw[I H4] at hnum;exact⟨hnum,(Ch (I H5)).trans hk (Aa Z)⟩);clear hi hk;go_wp2_with fail;go_ret;exact⟨Z,(I F).1,(I F).2⟩
theorem kV(w:ψ):IntAt (w.alloc (.cells #[.bool false,.slice γ 0 0] 141)) w.heap.size (.bool false) (.slice γ 0 0):=by unfold IntAt;show (w.heap.push _)[w.heap.size]?=_;rw[Bt]
theorem fQ(w)(o):Below w.heap.size w (w.alloc o):=(Af _ _).alloc (Xr _) _
theorem tJ{w2}{o}(k:ν w.heap.size (w.alloc o) w2):Below w.heap.size w w2:=
 ((Ch (z:=w.heap.size) (fQ w o)).trans k (Aa rfl)).below (Xr _)
theorem pE(x)(hx:χ x)(w):θ ζ 91 #[.int .i64 x] w λe w'=>∃b,e=.returned (.pointer (δ ⟨b,0,γ⟩))/\w.heap.size<=b/\Num w' b x/\Below w.heap.size w w':=by have HX:=J hx;clear hx;go_in;go_wp2_with fail;refine (aBU _ x (I HX) _ _ _ (kV w)).mono ?_;rintro e w2 ⟨rfl,hn,hk⟩;have F:=J (show Num w2 w.heap.size x/\Below w.heap.size w w2 from ⟨hn,tJ hk⟩);clear hn hk;go_wp2_with fail;go_ret;exact⟨w.heap.size,Z,Xr _,(I F).1,(I F).2⟩
theorem jG(x)(hx:χ x)(w):θ ζ 61 #[.int .i64 x] w λe w'=>∃b,e=.returned (.pointer (δ ⟨b,0,γ⟩))/\w.heap.size<=b/\Num w' b x/\Below w.heap.size w w':=by have HX:=J hx;obtain⟨x1,x2⟩:=hx;go_in;go_wp2_with fail;refine (pE x (I HX) _).mono ?_;rintro e w2 ⟨b,rfl,hb,hn,hk⟩;have F:=J (show w.heap.size<=b/\Num w2 b x/\Below w.heap.size w w2 from ⟨hb,hn,hk⟩);clear hb hn hk;go_wp2_with fail;go_ret;exact⟨b,Z,(I F).1,(I F).2.1,(I F).2.2⟩
theorem Tryz.infoU32:(Tryz.prog.info? 168).map (λi=>(i.zero,i.size,i.bytes))=δ (δ (.int .u32 0),1,4):=Yl
def Own(w:ψ)(b N:β)(g:β->Int):Prop:=w.rowIs b 168 N (λj=>η .u32 (g j))
def upd(g:β->Int)(k:β)(x:Int):β->Int:=λj=>if j=k then x else g j
theorem FE(g:β->Int)(k)(x):upd g k x k=x:=π rfl
variable{k:β}
theorem jF(g:β->Int){j}(x)(h:j≠k):upd g k x j=g j:=μ h
theorem oQ(g:β->Int)(k)(x):M (upd g k x) (k+1)=M g k+x*4294967296^k:=by show M (upd g k x) k+upd g k x k*4294967296^k=_;rw[FE,wL (λi hi=>jF g x O)]
variable{g:β->Int}
theorem Wd.upd(h:Wd k g)(h0:0<=x)(h1:x<4294967296):Wd (k+1) (upd g k x):=by
 intro i hi;rcases Ar i k with h2|h2
 .rw[jF g x O];exact h i h2
 have:i=k:=O;subst this;rw[FE];exact⟨h0,h1⟩
variable{N:β}
theorem Own.set(h:Own w b N g)(k)(x):Own (w.setCell ⟨b,k,γ⟩ (.int .u32 x)) b N (upd g k x):=by
 have h2:=World.rowIs.set h k (η .u32 x);have e:(λj=>if j=k then ω .u32 x else (λj=>ω .u32 (g j)) j)=λj=>ω .u32 (upd g k x j):=by funext j;show (if j=k then ω .u32 x else ω .u32 (g j))=ω .u32 (if j=k then x else g j);split<;>rfl
 rw[e] at h2;exact h2
variable{i:β}
theorem Own.cell(h:Own w b N g)(hi:i<N):w.cell? ⟨b,i,γ⟩=δ (.int .u32 (g i)):=World.rowIs.cell h hi
theorem Own.free(h:Own w b N g)(i):w.frozen? ⟨b,i,γ⟩=false:=World.rowIs.frozen h i
theorem Own.row(h:Own w b N g):Δ w b N g:=λ_ hi=>h.cell hi
theorem Own.lt(h:Own w b N g):b<w.heap.size:=World.rowIs.lt h
theorem tX(w:ψ)(N):Own (w.alloc (.cells (Ψ #[.int .u32 0] N) 168)) w.heap.size N (λ_=>0):=World.rowIs_made w (η .u32 0) N 168
def Has(w:ψ)(ao:Option å)(n:β)(f:β->Int):Prop:=0<n->∃b,ao=δ ⟨b,0,γ⟩/\b<w.heap.size/\Δ w b n f
variable{ao:Option å}
theorem Has.below(h:Has w ao n f)(k:Below w.heap.size w w'):Has w' ao n f:=by intro hn;obtain⟨b,e,h1,h2⟩:=h hn;exact⟨b,e,Dz h1 k.size,h2.same (k.block b h1)⟩
theorem Has.below'(h:Has w ao n f)(k:Below w.heap.size w w')(hn:0<n):∃b,ao=δ ⟨b,0,γ⟩/\b<w.heap.size/\Δ w' b n f:=by obtain⟨b,e,h1,h2⟩:=h hn;exact⟨b,e,h1,h2.same (k.block b h1)⟩
theorem Sl.view(h:Sl w v n f):∃ao cap,v=.slice ao n cap/\n<=cap/\cap<=9223372036854775807/\Has w ao n f:=by
 rcases h with ⟨rfl,rfl⟩|⟨b,cap,rfl,h1,h2,h3,h4⟩
 .exact⟨γ,0,Z,Xr _,by decide,λh=>ρ h O⟩
 exact⟨_,cap,Z,h1,h2,λ_=>⟨b,Z,h3,h4⟩⟩
def vN(m:β)(f:β->Int):β->Int:=λi=>if i<m then f i else 0
variable{m:β}
theorem LG(f:β->Int)(h:m<=n):M (vN m f) n=M f m:=by have e1:M (vN m f) n=M (vN m f) m:=gV h (λi h1 _=>μ (show ¬i<m by omega));have e2:M (vN m f) m=M f m:=wL (λi hi=>π hi);rw[e1,e2]
variable{fa fb:β->Int}{t:Int}
theorem zZ{c}(h:M g k+c*4294967296^k=M fa k+M fb k)(ht:t=c+fa k+fb k):M (upd g k (t%4294967296)) (k+1)+t/4294967296*4294967296^(k+1)=M fa (k+1)+M fb (k+1):=by
 rw[oQ];show _=M fa k+fa k*4294967296^k+(M fb k+fb k*4294967296^k);have e:t*4294967296^k=c*4294967296^k+fa k*4294967296^k+fb k*4294967296^k:=by rw[ht,Bi,Bi]
 have e2:t%4294967296*4294967296^k+t/4294967296*4294967296^(k+1)=t*4294967296^k:=by rw[Bw,Bc (4294967296^k) 4294967296, <-Av, <-Bi];congr 1;omega
 omega
theorem aJx(ao bo)(n m capa capb)(fa fb)(hmn:m<=n)(hn:n<=549755813888)(w)(ha:Has w ao n fa)(hb:Has w bo m fb)(wa:Wd n fa)(wb:Wd m fb):θ ζ 147 #[.slice ao n capa,.slice bo m capb] w λe w'=>∃(v:τ) (l:β) (f:β->Int),e=.returned v/\Sl w' v l f/\Wd l f/\Nm l f/\M f l=M fa n+M fb m/\l<=n+1/\Below w.heap.size w w':=by
 have hmk:=λwx=>run_make_row' (P:=ζ) 139 168 (η .u32 0) 4 Ec Tryz.infoU32 Z ο ο (n+1) O O wx;rw[show ((n+1:β):Int)=(n:Int)+1 by omega] at hmk;have HA:=J ha;have HB:=J hb;have WA:=J wa;have WB:=J wb;clear ha hb wa wb;go_in;go_wp2_with fail;clear hmk;go_loopw [6,7] (λcs is wr=>∃(k:β) (c:Int) (g:β->Int),is=η ο k/\cs=η .u64 c/\k<=n/\0<=c/\c<=1/\Own wr w.heap.size (n+1) g/\Wd k g/\M g k+c*4294967296^k=M fa k+M (vN m fb) k/\Below w.heap.size w wr)
  (λ_ is _=>n-(ξ is).toNat)
 case atStart=>exact⟨0,0,_,rfl,rfl,Xz _,Bp _,by decide,tX w (n+1),λi hi=>ρ hi O,rfl,fQ w _⟩
 case round=>
  obtain⟨k,c,g,rfl,rfl,hk,c0,c1,hO,hW,hv,hBl⟩:=hrel;have HO:=J hO;have HW:=J hW;have HV:=J hv;have HBl:=J hBl;clear hO hW hv hBl;by_cases hkn:k<n
  .obtain⟨ba,rfl,hba,hra⟩:=Has.below' (I HA) (I HBl) O;have ca:=hra k hkn;have co:=(I HO).cell (show k<n+1 by omega);have fo:=(I HO).free k;obtain⟨a0,a1⟩:=I WA k hkn;clear hra;by_cases hkm:k<m
   .obtain⟨bb,rfl,hbb,hrb⟩:=Has.below' (I HB) (I HBl) O;have cb:=hrb k hkm;obtain⟨b0,b1⟩:=I WB k hkm;have HS:=J (zZ (t:=c+fa k+fb k) (I HV) (by show _=c+fa k+(if k<m then fb k else 0);rw[π hkm]));clear hrb;go_wp2_with fail;go_roundw;case rel=>exact⟨k+1,_,_,by go_num,rfl,O,O,O,(I HO).set k _,(I HW).upd O O,I HS,(I HBl).setCell (Xr _) _⟩
    case measure=>simp[ξ];omega
   have HS:=J (zZ (t:=c+fa k) (I HV) (by show _=c+fa k+(if k<m then fb k else 0);rw[μ hkm];omega));go_wp2_with fail;go_roundw;case rel=>exact⟨k+1,_,_,by go_num,rfl,O,O,O,(I HO).set k _,(I HW).upd O O,I HS,(I HBl).setCell (Xr _) _⟩
   case measure=>simp[ξ];omega
  .have hkn2:k=n:=O;subst hkn2;have co:=(I HO).cell (show k<k+1 by omega);have fo:=(I HO).free k;have hr:=((I HO).set k c).row;have hwd:=(I HW).upd c0 (show c<4294967296 by omega);have hval:M (upd g k c) (k+1)=M fa k+M fb m:=by rw[oQ,I HV,LG fb hmn]
   have HR:=J hr;have HWD:=J hwd;have HVAL:=J hval;have HOL:=J ((I HO).set k c).lt;clear hr hwd hval;go_wp2_with fail;refine (mP w.heap.size (k+1) (k+1) (upd g k c) (Xr _) O _ (I HR)).mono ?_;rintro e w1 ⟨l,rfl,hl,hz,hnm,rfl⟩;have F:=J (show Sl (wr.setCell ⟨w.heap.size,k,γ⟩ (η .u32 c)) (ι (δ ⟨w.heap.size,0,γ⟩) l (k+1)) l (upd g k c)/\Wd l (upd g k c)/\Nm l (upd g k c)/\M (upd g k c) l=M fa k+M fb m/\l<=k+1/\Below w.heap.size w (wr.setCell ⟨w.heap.size,k,γ⟩ (η .u32 c)) from
    ⟨Ab ⟨_,_,rfl,hl,O,I HOL,(I HR).less hl⟩,(I HWD).less hl,hnm,by rw[<-gV hl hz];exact I HVAL,hl,(I HBl).setCell (Xr _) _⟩)
   clear hz hnm;go_wp2_with fail;go_ret;exact⟨_,l,_,Z,I F⟩
theorem aJy(ao bo)(n m capa capb)(fa fb)(hmn:m<n)(hn:n<=549755813888)(w)(ha:Has w ao n fa)(hb:Has w bo m fb)(wa:Wd n fa)(wb:Wd m fb):θ ζ 147 #[.slice bo m capb,.slice ao n capa] w λe w'=>∃(v:τ) (l:β) (f:β->Int),e=.returned v/\Sl w' v l f/\Wd l f/\Nm l f/\M f l=M fa n+M fb m/\l<=n+1/\Below w.heap.size w w':=by
 have hmk:=λwx=>run_make_row' (P:=ζ) 139 168 (η .u32 0) 4 Ec Tryz.infoU32 Z ο ο (n+1) O O wx;rw[show ((n+1:β):Int)=(n:Int)+1 by omega] at hmk;have HA:=J ha;have HB:=J hb;have WA:=J wa;have WB:=J wb;clear ha hb wa wb;go_in;go_wp2_with fail;clear hmk;go_loopw [6,7] (λcs is wr=>∃(k:β) (c:Int) (g:β->Int),is=η ο k/\cs=η .u64 c/\k<=n/\0<=c/\c<=1/\Own wr w.heap.size (n+1) g/\Wd k g/\M g k+c*4294967296^k=M fa k+M (vN m fb) k/\Below w.heap.size w wr)
  (λ_ is _=>n-(ξ is).toNat)
 case atStart=>exact⟨0,0,_,rfl,rfl,Xz _,Bp _,by decide,tX w (n+1),λi hi=>ρ hi O,rfl,fQ w _⟩
 case round=>
  obtain⟨k,c,g,rfl,rfl,hk,c0,c1,hO,hW,hv,hBl⟩:=hrel;have HO:=J hO;have HW:=J hW;have HV:=J hv;have HBl:=J hBl;clear hO hW hv hBl;by_cases hkn:k<n
  .obtain⟨ba,rfl,hba,hra⟩:=Has.below' (I HA) (I HBl) O;have ca:=hra k hkn;have co:=(I HO).cell (show k<n+1 by omega);have fo:=(I HO).free k;obtain⟨a0,a1⟩:=I WA k hkn;clear hra;by_cases hkm:k<m
   .obtain⟨bb,rfl,hbb,hrb⟩:=Has.below' (I HB) (I HBl) O;have cb:=hrb k hkm;obtain⟨b0,b1⟩:=I WB k hkm;have HS:=J (zZ (t:=c+fa k+fb k) (I HV) (by show _=c+fa k+(if k<m then fb k else 0);rw[π hkm]));clear hrb;go_wp2_with fail;go_roundw;case rel=>exact⟨k+1,_,_,by go_num,rfl,O,O,O,(I HO).set k _,(I HW).upd O O,I HS,(I HBl).setCell (Xr _) _⟩
    case measure=>simp[ξ];omega
   have HS:=J (zZ (t:=c+fa k) (I HV) (by show _=c+fa k+(if k<m then fb k else 0);rw[μ hkm];omega));go_wp2_with fail;go_roundw;case rel=>exact⟨k+1,_,_,by go_num,rfl,O,O,O,(I HO).set k _,(I HW).upd O O,I HS,(I HBl).setCell (Xr _) _⟩
   case measure=>simp[ξ];omega
  .have hkn2:k=n:=O;subst hkn2;have co:=(I HO).cell (show k<k+1 by omega);have fo:=(I HO).free k;have hr:=((I HO).set k c).row;have hwd:=(I HW).upd c0 (show c<4294967296 by omega);have hval:M (upd g k c) (k+1)=M fa k+M fb m:=by rw[oQ,I HV,LG fb (Nat.le_of_lt hmn)]
   have HR:=J hr;have HWD:=J hwd;have HVAL:=J hval;have HOL:=J ((I HO).set k c).lt;clear hr hwd hval;go_wp2_with fail;refine (mP w.heap.size (k+1) (k+1) (upd g k c) (Xr _) O _ (I HR)).mono ?_;rintro e w1 ⟨l,rfl,hl,hz,hnm,rfl⟩;have F:=J (show Sl (wr.setCell ⟨w.heap.size,k,γ⟩ (η .u32 c)) (ι (δ ⟨w.heap.size,0,γ⟩) l (k+1)) l (upd g k c)/\Wd l (upd g k c)/\Nm l (upd g k c)/\M (upd g k c) l=M fa k+M fb m/\l<=k+1/\Below w.heap.size w (wr.setCell ⟨w.heap.size,k,γ⟩ (η .u32 c)) from
    ⟨Ab ⟨_,_,rfl,hl,O,I HOL,(I HR).less hl⟩,(I HWD).less hl,hnm,by rw[<-gV hl hz];exact I HVAL,hl,(I HBl).setCell (Xr _) _⟩)
   clear hz hnm;go_wp2_with fail;go_ret;exact⟨_,l,_,Z,I F⟩
theorem WC(va vb)(n m)(fa fb)(hn:n<=549755813888)(hm:m<=549755813888)(w)(ha:Sl w va n fa)(hb:Sl w vb m fb)(wa:Wd n fa)(wb:Wd m fb):θ ζ 147 #[va,vb] w λe w'=>∃(v:τ) (l:β) (f:β->Int),e=.returned v/\Sl w' v l f/\Wd l f/\Nm l f/\M f l=M fa n+M fb m/\l<=max n m+1/\Below w.heap.size w w':=by
 obtain⟨ao,capa,rfl, -, -,ha⟩:=ha.view;obtain⟨bo,capb,rfl, -, -,hb⟩:=hb.view;rcases Ar n m with h|h
 .refine (aJy bo ao m n capb capa fb fa h hm w hb ha wb wa).mono ?_;rintro e w' ⟨v,l,f,h1,h2,h3,h4,h5,h6,h7⟩;exact⟨v,l,f,h1,h2,h3,h4,by rw[h5,Hf],O,h7⟩
 refine (aJx ao bo n m capa capb fa fb h hn w ha hb wa wb).mono ?_;rintro e w' ⟨v,l,f,h1,h2,h3,h4,h5,h6,h7⟩;exact⟨v,l,f,h1,h2,h3,h4,h5,O,h7⟩
theorem aCf{c c'}(h:M g k-c*4294967296^k=M fa k-M fb k)(ht:t=fa k-c-fb k)(hx:t=x-c'*4294967296):M (upd g k x) (k+1)-c'*4294967296^(k+1)=M fa (k+1)-M fb (k+1):=by
 rw[oQ];show _=M fa k+fa k*4294967296^k-(M fb k+fb k*4294967296^k);have e:t*4294967296^k=fa k*4294967296^k-c*4294967296^k-fb k*4294967296^k:=by rw[ht,Ed,Ed]
 have e2:x*4294967296^k-c'*4294967296^(k+1)=t*4294967296^k:=by rw[Bw,Bc (4294967296^k) 4294967296, <-Av, <-Ed,hx]
 omega
theorem aLX(ao bo)(n m capa capb)(fa fb)(hmn:m<=n)(hn:n<=549755813888)(w)(ha:Has w ao n fa)(hb:Has w bo m fb)(wa:Wd n fa)(wb:Wd m fb)(hge:M fb m<=M fa n):θ ζ 172 #[.slice ao n capa,.slice bo m capb] w λe w'=>∃(v:τ) (l:β) (f:β->Int),e=.returned v/\Sl w' v l f/\Wd l f/\Nm l f/\M f l=M fa n-M fb m/\l<=n/\Below w.heap.size w w':=by
 have hmk:=λwx=>run_make_row' (P:=ζ) 139 168 (η .u32 0) 4 Ec Tryz.infoU32 Z ο ο n O O wx;have HA:=J ha;have HB:=J hb;have WA:=J wa;have WB:=J wb;have HG:=J hge;clear ha hb wa wb hge;go_in;go_wp2_with fail;clear hmk;go_loopw [6,7] (λcs is wr=>∃(k:β) (c:Int) (g:β->Int),is=η ο k/\cs=η .u64 c/\k<=n/\0<=c/\c<=1/\Own wr w.heap.size n g/\Wd k g/\M g k-c*4294967296^k=M fa k-M (vN m fb) k/\Below w.heap.size w wr)
  (λ_ is _=>n-(ξ is).toNat)
 case atStart=>exact⟨0,0,_,rfl,rfl,Xz _,Bp _,by decide,tX w n,λi hi=>ρ hi O,rfl,fQ w _⟩
 case round=>
  obtain⟨k,c,g,rfl,rfl,hk,c0,c1,hO,hW,hv,hBl⟩:=hrel;have HO:=J hO;have HW:=J hW;have HV:=J hv;have HBl:=J hBl;clear hO hW hv hBl;by_cases hkn:k<n
  .obtain⟨ba,rfl,hba,hra⟩:=Has.below' (I HA) (I HBl) O;have ca:=hra k hkn;have co:=(I HO).cell hkn;have fo:=(I HO).free k;obtain⟨a0,a1⟩:=I WA k hkn;clear hra;by_cases hkm:k<m
   .obtain⟨bb,rfl,hbb,hrb⟩:=Has.below' (I HB) (I HBl) O;have cb:=hrb k hkm;obtain⟨b0,b1⟩:=I WB k hkm;clear hrb;obtain⟨d,ed⟩:∃d,IntKind.u64.wrap (IntKind.u64.wrap (fa k-c)-fb k)=d:=⟨_,rfl⟩;have hd:d=(fa k-c-fb k)%18446744073709551616:=by rw[<-ed];simp only[Eb];omega
    have d0:0<=d:=O;have d1:d<18446744073709551616:=O;have d2:0<=d/9223372036854775808/\d/9223372036854775808<=1:=O;have HS:=J (aCf (t:=fa k-c-fb k) (x:=d%4294967296) (c':=d/9223372036854775808) (I HV) (by show _=fa k-c-(if k<m then fb k else 0);rw[π hkm]) O);clear hd;go_wp2_with fail;go_roundw;case rel=>exact⟨k+1,_,_,by go_num,rfl,O,d2.1,d2.2,(I HO).set k _,(I HW).upd O O,I HS,(I HBl).setCell (Xr _) _⟩
    case measure=>simp[ξ];omega
   obtain⟨d,ed⟩:∃d,IntKind.u64.wrap (fa k-c)=d:=⟨_,rfl⟩;have hd:d=(fa k-c)%18446744073709551616:=by rw[<-ed];simp only[Eb]
   have d0:0<=d:=O;have d1:d<18446744073709551616:=O;have d2:0<=d/9223372036854775808/\d/9223372036854775808<=1:=O;have HS:=J (aCf (t:=fa k-c) (x:=d%4294967296) (c':=d/9223372036854775808) (I HV) (by show _=fa k-c-(if k<m then fb k else 0);rw[μ hkm];omega) O);clear hd;go_wp2_with fail;go_roundw;case rel=>exact⟨k+1,_,_,by go_num,rfl,O,d2.1,d2.2,(I HO).set k _,(I HW).upd O O,I HS,(I HBl).setCell (Xr _) _⟩
   case measure=>simp[ξ];omega
  .have hkn2:k=n:=O;subst hkn2;have hval:M g k=M fa k-M fb m:=by
    have h1:=I HV;rw[LG fb hmn] at h1;have h2:=dP (I HW);have h3:=I HG;have h4:c=0:=by
     rcases (show c=0\/c=1 by omega) with h|h
     .exact h
     subst h;omega
    subst h4;omega
   have HVAL:=J hval;have HOL:=J (I HO).lt;clear hval;go_wp2_with fail;refine (mP w.heap.size k k g (Xr _) O _ (I HO).row).mono ?_;rintro e w1 ⟨l,rfl,hl,hz,hnm,rfl⟩;have F:=J (show Sl w1 (ι (δ ⟨w.heap.size,0,γ⟩) l k) l g/\Wd l g/\Nm l g/\M g l=M fa k-M fb m/\l<=k/\Below w.heap.size w w1 from
    ⟨Ab ⟨_,_,rfl,hl,O,I HOL,(I HO).row.less hl⟩,(I HW).less hl,hnm,by rw[<-gV hl hz];exact I HVAL,hl,I HBl⟩)
   clear hz hnm;go_wp2_with fail;go_ret;exact⟨_,l,_,Z,I F⟩
theorem XQ(va vb)(n m)(fa fb)(hmn:m<=n)(hn:n<=549755813888)(w)(ha:Sl w va n fa)(hb:Sl w vb m fb)(wa:Wd n fa)(wb:Wd m fb)(hge:M fb m<=M fa n):θ ζ 172 #[va,vb] w λe w'=>∃(v:τ) (l:β) (f:β->Int),e=.returned v/\Sl w' v l f/\Wd l f/\Nm l f/\M f l=M fa n-M fb m/\l<=n/\Below w.heap.size w w':=by obtain⟨ao,capa,rfl, -, -,ha⟩:=ha.view;obtain⟨bo,capb,rfl, -, -,hb⟩:=hb.view;exact aLX ao bo n m capa capb fa fb hmn hn w ha hb wa wb hge
def Drw(w w':ψ):Prop:=∃q,w'=w.drewN q
theorem Drw.refl(w):Drw w w:=⟨0,rfl⟩
theorem Drw.drew(h:Drw w w'):Drw w w'.drew:=by obtain⟨q,rfl⟩:=h;exact⟨q+1,Z⟩
theorem Drw.drewN(h:Drw w w')(k):Drw w (w'.drewN k):=by obtain⟨q,rfl⟩:=h;exact⟨q+k,by rw[World.drewN_drewN]⟩
theorem Drw.trans{a b c}(h:Drw a b)(k:Drw b c):Drw a c:=by obtain⟨q,rfl⟩:=k;exact h.drewN q
theorem Drw.heap(h:Drw w w'):w'.heap=w.heap:=by obtain⟨q,rfl⟩:=h;rfl
theorem Drw.below(h:Drw w w')(B):Below B w w':=by obtain⟨q,rfl⟩:=h;exact below_drewN (Af B w) q
theorem Drw.row(h:Drw w w')(r:Δ w b n f):Δ w' b n f:=by obtain⟨q,rfl⟩:=h;exact r
def sH(a b:Int):Int:=if a<b then -1 else if b<a then 1 else 0
variable{a b:Int}
theorem AU(h:a<b):sH a b= -1:=π h
theorem KO(h:b<a):sH a b=1:=by unfold sH;rw[μ O,π h]
theorem aDP(h:a=b):sH a b=0:=by unfold sH;rw[μ O,μ O]
theorem XX:∀{n:β},m<=n->(∀i,m<=i->i<n->fa i=fb i)->M fa n-M fa m=M fb n-M fb m
 |0,h,_=>by have:m=0:=O;subst this;rfl
 |n+1,h,hz=>by
  rcases Ar n m with hl|hl
  .have:m=n+1:=O;subst this;omega
  have ih:=XX (n:=n) hl (λi h1 h2=>hz i h1 O);show M fa n+fa n*4294967296^n-M fa m=M fb n+fb n*4294967296^n-M fb m;rw[hz n hl O];omega
theorem XW(wa:Wd n fa)(wb:Wd n fb)(hk:k<n)(hz:∀i,k+1<=i->i<n->fa i=fb i)(h:fa k<fb k):M fa n<M fb n:=by have h1:M fa n-M fa (k+1)=M fb n-M fb (k+1):=XX hk hz;have h2:=(dP (wa.less (show k<=n by omega))).2;have h3:=(dP (wb.less (show k<=n by omega))).1;have h4:(fa k+1)*4294967296^k<=fb k*4294967296^k:=Ci O (Ba (φ k));rw[Bi,Fy] at h4;have e1:M fa (k+1)=M fa k+fa k*4294967296^k:=rfl;have e2:M fb (k+1)=M fb k+fb k*4294967296^k:=rfl;omega
theorem zO(wa:Wd n fa)(wb:Wd m fb)(nb:Nm m fb)(h:n<m):M fa n<M fb m:=by
 obtain⟨l,rfl⟩:∃l,m=l+1:=⟨m-1,O⟩;have h1:=(dP wa).2;have h2:=aCn wb (by rcases nb with h|h;exact ρ h O;exact h);have h3:(4294967296:Int)^n<=4294967296^l:=by obtain⟨d,rfl⟩:∃d,l=n+d:=⟨l-n,O⟩;rw[Ca];have:=Dl (show 1<=(4294967296:Int)^d from φ d) (Ba (φ n));omega
 omega
theorem aJJ(ao bo)(n m capa capb)(fa fb)(hn:n<=549755813888)(hm:m<=549755813888)(w)(ha:Has w ao n fa)(hb:Has w bo m fb)(wa:Wd n fa)(wb:Wd m fb)(na:Nm n fa)(nb:Nm m fb):θ ζ 210 #[.slice ao n capa,.slice bo m capb] w λe w'=>e=.returned (.int .i64 (sH (M fa n) (M fb m)))/\Drw w w':=by
 rcases uG n m with h|h|h
 .have E:=J (AU (zO wa wb nb h));have t:((n:Int)!=(m:Int))=true:=by simp;omega
  clear ha hb wa wb na nb;go_in;go_wp2_with fail;go_ret;exact⟨by rw[I E];rfl,Drw.refl _⟩
 .subst h;have HA:=J ha;have HB:=J hb;have WA:=J wa;have WB:=J wb;clear ha hb wa wb na nb;go_in;go_wp2_with fail;go_loopw [5] (λis wr=>∃(i:Int) (k:β),is=η ο i/\i=(k:Int)-1/\k<=n/\(∀j,k<=j->j<n->fa j=fb j)/\Drw w wr) (λis _=>(ξ is+1).toNat);case atStart=>exact⟨_,n,rfl,rfl,Xr _,λj h1 h2=>ρ h2 O,Drw.refl _⟩
  case round=>
   obtain⟨i,k,rfl,hi,hk,hz,hd⟩:=hrel;have HZ:=J hz;have HD:=J hd;clear hz hd;rcases Bj k with h0|h0
   .subst h0;have hi2:i= -1:=O;subst hi2;have E:=J (aDP (show M fa n=M fb n from wL (λj hj=>I HZ j O hj)));clear hi;go_wp2_with fail;go_ret;exact⟨by rw[I E];rfl,I HD⟩
   .obtain⟨j,rfl⟩:∃j,k=j+1:=⟨k-1,O⟩;have hi2:i=(j:Int):=O;subst hi2;clear hi h0;obtain⟨ba,rfl,hba,hra⟩:=I HA O;obtain⟨bb,rfl,hbb,hrb⟩:=I HB O;have ca:=(I HD).row hra j O;have cb:=(I HD).row hrb j O;clear hra hrb;rcases Int.lt_trichotomy (fa j) (fb j) with h|h|h
    .have E:=J (AU (XW (I WA) (I WB) (show j<n by omega) (I HZ) h));have t:(fa j !=fb j)=true:=by simp;omega
     go_wp2_with fail;go_region;go_wp2_with fail;go_region;go_wp2_with fail;go_ret;exact⟨by rw[I E];rfl,(I HD).drew.drew⟩
    .have t:(fa j !=fb j)=false:=by simp;omega
     have HJ:=J h;clear h;go_wp2_with fail;go_region;go_wp2_with fail;go_roundw;case rel=>exact⟨_,j,rfl,rfl,O,λi h1 h2=>by
      rcases Ar j i with h|h
      .exact I HZ i O h2
      have:i=j:=O;subst this;exact I HJ,(I HD).drew⟩
     case measure=>simp[ξ]
    have E:=J (KO (XW (I WB) (I WA) (show j<n by omega) (λi h1 h2=>(I HZ i h1 h2).symm) h));have t:(fa j !=fb j)=true:=by simp;omega
    go_wp2_with fail;go_region;go_wp2_with fail;go_region;go_wp2_with fail;go_ret;exact⟨by rw[I E];rfl,(I HD).drew.drew⟩
 have E:=J (KO (zO wb wa na h));have t:((n:Int)!=(m:Int))=true:=by simp;omega
 clear ha hb wa wb na nb;go_in;go_wp2_with fail;go_ret;exact⟨by rw[I E];rfl,Drw.refl _⟩
theorem yI(va vb)(n m)(fa fb)(hn:n<=549755813888)(hm:m<=549755813888)(w)(ha:Sl w va n fa)(hb:Sl w vb m fb)(wa:Wd n fa)(wb:Wd m fb)(na:Nm n fa)(nb:Nm m fb):θ ζ 210 #[va,vb] w λe w'=>e=.returned (.int .i64 (sH (M fa n) (M fb m)))/\Drw w w':=by obtain⟨ao,capa,rfl, -, -,ha⟩:=ha.view;obtain⟨bo,capb,rfl, -, -,hb⟩:=hb.view;exact aJJ ao bo n m capa capb fa fb hn hm w ha hb wa wb na nb
theorem aEE(xn yn)(va vb)(n m)(fa fb)(hn:n<=549755813888)(hm:m<=549755813888)(w)(ha:Sl w va n fa)(hb:Sl w vb m fb)(wa:Wd n fa)(wb:Wd m fb)(na:Nm n fa)(nb:Nm m fb):θ ζ 158 #[.bool xn,va,.bool yn,vb] w λe w'=>∃(s:â) (v:τ) (l:β) (f:β->Int),e=.returned (.tuple #[.bool s,v])/\Sl w' v l f/\Wd l f/\Nm l f/\cK s (M f l)=cK xn (M fa n)+cK yn (M fb m)/\Below w.heap.size w w':=by
 have HA:=J ha;have HB:=J hb;have WA:=J wa;have WB:=J wb;have NA:=J na;have NB:=J nb;obtain⟨ao,capa,rfl, -, -, -⟩:=ha.view;obtain⟨bo,capb,rfl, -, -, -⟩:=hb.view;clear ha hb wa wb na nb;by_cases h:xn=yn
 .subst h;have t:(xn==xn)=true:=by simp
  go_in;go_wp2_with fail;refine (WC _ _ n m fa fb hn hm _ (I HA) (I HB) (I WA) (I WB)).mono ?_;rintro e w1 ⟨v,l,f,rfl,h2,h3,h4,h5,h6,h7⟩;have F:=J (show Sl w1 v l f/\Wd l f/\Nm l f/\cK xn (M f l)=cK xn (M fa n)+cK xn (M fb m)/\Below w.heap.size w w1 from ⟨h2,h3,h4,by rw[h5];cases xn<;>simp[cK];omega,h7⟩);clear h2 h3 h4 h5 h6 h7;go_wp2_with fail;go_ret2;exact⟨xn,v,l,f,Z,I F⟩
 have t:(xn==yn)=false:=by simpa using h
 have hxy:yn= !xn:=by cases xn<;>cases yn<;>simp_all
 have hs:∀a b:Int,cK xn a+cK yn b=cK xn (a-b):=by intro a b;rw[hxy];cases xn<;>simp[cK]<;>omega
 have hs2:∀a b:Int,cK xn a+cK yn b=cK yn (b-a):=by intro a b;rw[hxy];cases xn<;>simp[cK]<;>omega
 have HS:=J hs;have HS2:=J hs2;clear hs hs2 hxy h;go_in;go_wp2_with fail;refine (yI _ _ n m fa fb hn hm _ (I HA) (I HB) (I WA) (I WB) (I NA) (I NB)).mono ?_;rintro e w1 ⟨rfl,hd⟩;have HD:=J (hd.below w.heap.size);clear hd;by_cases hc:M fb m<=M fa n
 .have c0:0<=sH (M fa n) (M fb m):=by unfold sH;rw[μ O];split<;>decide
  have hlen:Hid (m<=n):=by
   rcases Ar n m with h|h
   .exact ρ (zO (I WA) (I WB) (I NB) h) O
   exact h
  have HC:=J hc;clear hc;go_wp2_with fail;refine (XQ _ _ n m fa fb (I hlen) hn _ ((I HA).below (I HD)) ((I HB).below (I HD)) (I WA) (I WB) (I HC)).mono ?_;rintro e w2 ⟨v,l,f,rfl,h2,h3,h4,h5,h6,h7⟩;have F:=J (show Sl w2 v l f/\Wd l f/\Nm l f/\cK xn (M f l)=cK xn (M fa n)+cK yn (M fb m)/\Below w.heap.size w w2 from ⟨h2,h3,h4,by rw[h5,I HS],(I HD).trans (h7.mono (I HD).size)⟩);clear h2 h3 h4 h5 h6 h7;go_wp2_with fail;go_ret2;exact⟨xn,v,l,f,Z,I F⟩
 have c0:sH (M fa n) (M fb m)<0:=by unfold sH;rw[π O];decide
 have hlen:Hid (n<=m):=by
  rcases Ar m n with h|h
  .exact ρ (zO (I WB) (I WA) (I NA) h) O
  exact h
 have HC:Hid (M fa n<=M fb m):=by show _<=_;omega
 clear hc;go_wp2_with fail;refine (XQ _ _ m n fb fa (I hlen) hm _ ((I HB).below (I HD)) ((I HA).below (I HD)) (I WB) (I WA) (I HC)).mono ?_;rintro e w2 ⟨v,l,f,rfl,h2,h3,h4,h5,h6,h7⟩;have F:=J (show Sl w2 v l f/\Wd l f/\Nm l f/\cK yn (M f l)=cK xn (M fa n)+cK yn (M fb m)/\Below w.heap.size w w2 from ⟨h2,h3,h4,by rw[h5,I HS2],(I HD).trans (h7.mono (I HD).size)⟩);clear h2 h3 h4 h5 h6 h7;go_wp2_with fail;go_ret2;exact⟨yn,v,l,f,Z,I F⟩
def Bd(x:Int):Prop:=ε x<4294967296^100
theorem jJ(hw:Wd n f)(hn:Nm n f)(h:M f n<4294967296^k):n<=k:=by
 rcases Ar k n with hl|hl
 .obtain⟨l,rfl⟩:∃l,n=l+1:=⟨n-1,O⟩;have h2:=aCn hw (by rcases hn with h|h;exact ρ h O;exact h);have h3:(4294967296:Int)^k<=4294967296^l:=by obtain⟨d,rfl⟩:∃d,l=k+d:=⟨l-k,O⟩;rw[Ca];have:=Dl (show 1<=(4294967296:Int)^d from φ d) (Ba (φ k));omega
  omega
 exact hl
variable{s:â}
theorem jY{v}(h:0<=v):ε (cK s v)=v:=by grind [ε,cK]
theorem PR(h:Bd x)(hx:x=cK s (M f n))(hw:Wd n f)(hn:Nm n f):n<=549755813888:=by unfold Bd at h;rw[hx,jY (dP hw).1] at h;have:=jJ hw hn h;omega
def Two(bx by_:β)(xs xv ys yv:τ)(w:ψ):Prop:=
 w.cell? ⟨bx,0,γ⟩=δ xs/\w.cell? ⟨bx,1,γ⟩=δ xv/\w.cell? ⟨by_,0,γ⟩=δ ys/\w.cell? ⟨by_,1,γ⟩=δ yv
theorem lG{a}(h:w.cell? a=δ v)(k:Below w.heap.size w w'):w'.cell? a=δ v:=
 (k.cell (Gy w a h)).trans h
variable{bx:β}
theorem Two.below{by_}{xs xv ys yv}(h:Two bx by_ xs xv ys yv w)(k:Below w.heap.size w w'):Two bx by_ xs xv ys yv w':=
 ⟨lG h.1 k,lG h.2.1 k,lG h.2.2.1 k,lG h.2.2.2 k⟩
theorem rA(z bx by_)(x y)(s0)(v0)(w)(hz:IntAt w z (.bool s0) v0)(hx:Num w bx x)(hy:Num w by_ y)(dx:Bd x)(dy:Bd y):θ ζ 93 #[.pointer (δ ⟨z,0,γ⟩),.pointer (δ ⟨bx,0,γ⟩),.pointer (δ ⟨by_,0,γ⟩)] w λe w'=>e=.returned (.pointer (δ ⟨z,0,γ⟩))/\Num w' z (x+y)/\ν z w w':=by
 obtain⟨xn,xv,n,fa,hx1,hx2,hx3,hx4,hx5,hx6⟩:=hx;obtain⟨yn,yv,m,fb,hy1,hy2,hy3,hy4,hy5,hy6⟩:=hy;have c1:=hx1.cell0;have c2:=hx1.cell1;have c3:=hy1.cell0;have c4:=hy1.cell1;have L1:=J (PR dx hx5 hx3 hx4);have L2:=J (PR dy hy5 hy3 hy4);have HX2:=J hx2;have HX3:=J hx3;have HX4:=J hx4;have HY2:=J hy2;have HY3:=J hy3;have HY4:=J hy4;have E:=J (show x+y=cK xn (M fa n)+cK yn (M fb m) by rw[hx5,hy5]);have HZ:=J hz;obtain⟨ao,capa,rfl, -, -, -⟩:=hx2.view;obtain⟨bo,capb,rfl, -, -, -⟩:=hy2.view;clear hx1 hx2 hx3 hx4 hx5 hx6 hy1 hy2 hy3 hy4 hy5 hy6 hz dx dy;go_in;go_wp2_with fail;refine dY (S:=Two bx by_ (σ xn) (ι ao n capa) (σ yn) (ι bo m capb))
  [(0,false),(1,false),(2,false),(3,false),(4,false),(5,false),(6,false),(7,false),(8,false),(9,false),(10,false),(11,false),(12,false),(13,false),(14,false),(15,false),(16,false),(17,true),(18,false),(19,false),(20,true),(21,true)] [20,21] Yl Yl ?_
 have hS:Two bx by_ (σ xn) (ι ao n capa) (σ yn) (ι bo m capb) w.drew:=⟨c1,c2,c3,c4⟩;clear c1 c2 c3 c4;iterate 17
  refine bG (v:=?_) Z (λ_ _ _ h=>h) (by rfl) hS ?_ ?_;rotate_left 1
  .intro wx hwx;obtain⟨k1,k2,k3,k4⟩:=hwx;go_simp<;>exact rfl
  go_frame
 refine bD Z (λK hK=>?_);go_simp;refine (aEE xn yn _ _ n m fa fb (I L1) (I L2) _ (by exact I HX2) (by exact I HY2) (I HX3) (I HY3) (I HX4) (I HY4)).mono ?_;rintro e w1 ⟨s,v,l,f,rfl,h2,h3,h4,h5,h6⟩;have H2:=J h2;have H3:=J h3;have H4:=J h4;have H5:=J h5;have H6:=J h6;obtain⟨vo,cap,rfl, -, -, -⟩:=h2.view;have hS1:=hS.below h6;refine hK _ _ (λ_=>hS1) ?_;clear hS hK K h2 h3 h4 h5 h6;iterate 2
  refine bG (v:=?_) Z (λ_ _ _ h=>h) (by rfl) hS1 ?_ ?_;rotate_left 1
  .intro wx hwx;clear hwx;go_simp<;>exact rfl
  go_frame
 refine bD Z (λK hK=>?_);go_simp;refine (lZ z _ _ _ _ _ _ _ (IntAt.below (w:=w.drew) (I HZ) (I H6))).mono ?_;rintro e w2 ⟨rfl,g1,g2⟩;refine hK _ _ (λh=>by cases h) ?_;have F:=J (show Num w2 z (x+y)/\ν z w w2 from by have hsl:=(I H2).other g2 (IntAt.below (w:=w.drew) (I HZ) (I H6));have hnum:=jC g1 hsl (I H3) (I H4);rw[I H5, <-I E] at hnum;exact⟨hnum,(Ch (show Below w.heap.size w w1 from ((Drw.refl w).drew.below _).trans (I H6))).trans g2 (Aa Z)⟩);clear g1 g2 hK K hS1;refine bD Z (λK hK=>?_);go_simp;refine hK _ _ (λh=>by cases h) ?_;clear hK K;refine fZ ?_;go_wp2_with fail;go_ret;exact⟨Z,(I F).1,(I F).2⟩
theorem QQ(z bx by_)(x y)(s0)(v0)(w)(hz:IntAt w z (.bool s0) v0)(hx:Num w bx x)(hy:Num w by_ y)(dx:Bd x)(dy:Bd y):θ ζ 236 #[.pointer (δ ⟨z,0,γ⟩),.pointer (δ ⟨bx,0,γ⟩),.pointer (δ ⟨by_,0,γ⟩)] w λe w'=>e=.returned (.pointer (δ ⟨z,0,γ⟩))/\Num w' z (x-y)/\ν z w w':=by
 obtain⟨xn,xv,n,fa,hx1,hx2,hx3,hx4,hx5,hx6⟩:=hx;obtain⟨yn,yv,m,fb,hy1,hy2,hy3,hy4,hy5,hy6⟩:=hy;have c1:=hx1.cell0;have c2:=hx1.cell1;have c3:=hy1.cell0;have c4:=hy1.cell1;have L1:=J (PR dx hx5 hx3 hx4);have L2:=J (PR dy hy5 hy3 hy4);have HX2:=J hx2;have HX3:=J hx3;have HX4:=J hx4;have HY2:=J hy2;have HY3:=J hy3;have HY4:=J hy4;have E:=J (show x-y=cK xn (M fa n)+cK (!yn) (M fb m) by rw[hx5,hy5];cases yn<;>simp[cK]<;>omega);have HZ:=J hz;obtain⟨ao,capa,rfl, -, -, -⟩:=hx2.view;obtain⟨bo,capb,rfl, -, -, -⟩:=hy2.view;clear hx1 hx2 hx3 hx4 hx5 hx6 hy1 hy2 hy3 hy4 hy5 hy6 hz dx dy;go_in;go_wp2_with fail;refine dY (S:=Two bx by_ (σ xn) (ι ao n capa) (σ yn) (ι bo m capb))
  [(0,false),(1,false),(2,false),(3,false),(4,false),(5,false),(6,false),(7,false),(8,false),(9,false),(10,false),(11,false),(12,false),(13,false),(14,false),(15,false),(16,false),(17,false),(18,true),(19,false),(20,false),(21,true),(22,true)] [21,22] Yl Yl ?_
 have hS:Two bx by_ (σ xn) (ι ao n capa) (σ yn) (ι bo m capb) w.drew:=⟨c1,c2,c3,c4⟩;clear c1 c2 c3 c4;iterate 18
  refine bG (v:=?_) Z (λ_ _ _ h=>h) (by rfl) hS ?_ ?_;rotate_left 1
  .intro wx hwx;obtain⟨k1,k2,k3,k4⟩:=hwx;go_simp<;>exact rfl
  go_frame
 refine bD Z (λK hK=>?_);go_simp;refine (aEE xn (!yn) _ _ n m fa fb (I L1) (I L2) _ (by exact I HX2) (by exact I HY2) (I HX3) (I HY3) (I HX4) (I HY4)).mono ?_;rintro e w1 ⟨s,v,l,f,rfl,h2,h3,h4,h5,h6⟩;have H2:=J h2;have H3:=J h3;have H4:=J h4;have H5:=J h5;have H6:=J h6;obtain⟨vo,cap,rfl, -, -, -⟩:=h2.view;have hS1:=hS.below h6;refine hK _ _ (λ_=>hS1) ?_;clear hS hK K h2 h3 h4 h5 h6;iterate 2
  refine bG (v:=?_) Z (λ_ _ _ h=>h) (by rfl) hS1 ?_ ?_;rotate_left 1
  .intro wx hwx;clear hwx;go_simp<;>exact rfl
  go_frame
 refine bD Z (λK hK=>?_);go_simp;refine (lZ z _ _ _ _ _ _ _ (IntAt.below (w:=w.drew) (I HZ) (I H6))).mono ?_;rintro e w2 ⟨rfl,g1,g2⟩;refine hK _ _ (λh=>by cases h) ?_;have F:=J (show Num w2 z (x-y)/\ν z w w2 from by have hsl:=(I H2).other g2 (IntAt.below (w:=w.drew) (I HZ) (I H6));have hnum:=jC g1 hsl (I H3) (I H4);rw[I H5, <-I E] at hnum;exact⟨hnum,(Ch (show Below w.heap.size w w1 from ((Drw.refl w).drew.below _).trans (I H6))).trans g2 (Aa Z)⟩);clear g1 g2 hK K hS1;refine bD Z (λK hK=>?_);go_simp;refine hK _ _ (λh=>by cases h) ?_;clear hK K;refine fZ ?_;go_wp2_with fail;go_ret;exact⟨Z,(I F).1,(I F).2⟩
def PK(t0 t:Int)(k:β):Prop:=t=t0/2^k/\(k=0\/2^(k-1)<=t0)
theorem iD(k):(0:Int)<2^k:=Int.pow_pos Yc
variable{t0:Int}
theorem aDb(h:PK t0 t k)(ht:t≠0)(h0:0<=t0):PK t0 (t/2) (k+1):=by
 obtain⟨h1,h2⟩:=h;refine⟨?_,Ab ?_⟩
 .rw[h1,Bw,Mh (Ba (iD k))]
 show 2^k<=t0;rcases Cm t0 (2^k) with h|h
 .exact ρ (h1.trans (Ih h0 h)) ht
 exact h
theorem aFj(h:PK t0 0 k):t0<2^k:=by
 have h1:=h.1;rcases Cm t0 (2^k) with h2|h2
 .exact h2
 have:1<=t0/2^k:=by rw[xK (iD k)];omega
 omega
theorem pG(n):(4294967296:Int)^n=2^(32*n):=by rw[Int.pow_mul];rfl
theorem aDg(ao)(n cap)f(hn:n<=549755813888)(w)(ha:Has w ao n f)(wa:Wd n f)(na:Nm n f):θ ζ 155 #[.slice ao n cap] w λe w'=>∃L:β,e=.returned (.int .i64 L)/\(n=0->L=0)/\M f n<2^L/\(n≠0->2^L<=2*M f n)/\w'=w:=by
 rcases Bj n with h0|h0
 .subst h0;clear ha wa na;go_in;go_wp2_with fail;go_ret;exact⟨0,Z,λ_=>rfl,(show (0:Int)<2^0 by decide),λh=>ρ Z h,Z⟩
 obtain⟨m,rfl⟩:∃m,n=m+1:=⟨n-1,O⟩;obtain⟨b,rfl,hb,hr⟩:=ha h0;have hc:=hr m O;obtain⟨t0,t1⟩:=wa m O;have htop:f m≠0:=by rcases na with h|h;exact ρ h O;exact h
 have WA:=J wa;have HT:=J htop;have t:((m:Int)+1==0)=false:=by simp;omega
 clear wa na hr ha htop;go_in;go_wp2_with fail;go_loop [3,4] (λns ts=>∃(k:β) (t:Int),ns=η ο k/\ts=η .u32 t/\k<=32/\0<=t/\t<=f m/\PK (f m) t k) (λ_ ts=>(ξ ts).toNat);case atStart=>exact⟨0,f m,rfl,rfl,by decide,t0,Bp _,by show f m=f m/1;omega,Aa rfl⟩
 case round=>
  obtain⟨k,t,rfl,rfl,hk,ht0,ht1,hh⟩:=hrel;have HH:=J hh;clear hh;by_cases hz:t=0
  .subst hz;have F:=J (show M f (m+1)<2^(32*m+k)/\(2:Int)^(32*m+k)<=2*M f (m+1) from by
    have h1:=aFj (I HH);have h2:=(I HH).2;have h3:=dP ((I WA).less (show m<=m+1 by omega));have hp:=φ m;rw[Ca, <-pG];have e:M f (m+1)=M f m+f m*4294967296^m:=rfl;rw[e];constructor
    .have:=Ci (show f m+1<=2^k by omega) (Ba hp);rw[Bi,Fy] at this;rw[Bc (4294967296^m)];omega
    rcases h2 with h2|h2
    .subst h2;have:f m≠0:=I HT;have e0:f m<1:=h1;omega
    have h4:(2:Int)^k<=2*f m:=by
     rcases Bj k with h5|h5
     .subst h5;have:(1:Int)<=f m:=by have:=I HT;omega
      show (1:Int)<=2*f m;omega
     obtain⟨j,rfl⟩:∃j,k=j+1:=⟨k-1,O⟩;have e3:(2:Int)^(j+1-1)=2^j:=rfl;rw[e3] at h2;rw[Bw];omega
    have:=Ci h4 (Ba hp);rw[Av] at this;rw[Bc (4294967296^m)];omega)
   go_wp2_with fail;go_ret;exact⟨32*m+k,ê (λz=>é (ω ο z)) O,(I F).1,(I F).2,Z⟩
  .have tz:(t !=0)=true:=by simpa using hz
   have HN:=J (aDb (I HH) hz t0);have hk2:k<32:=by
    rcases Ar k 32 with h|h
    .exact h
    have:k=32:=O;subst this;have h1:=(I HH).1;have:f m/2^32=0:=Ih t0 t1;omega
   clear hz;go_wp2_with fail;go_round;case rel=>exact⟨k+1,_,by go_num,rfl,O,O,O,I HN⟩
   case measure=>simp[ξ];have:=tz;simp at this;omega
theorem I8(va)(n)f(hn:n<=549755813888)(w)(ha:Sl w va n f)(wa:Wd n f)(na:Nm n f):θ ζ 155 #[va] w λe w'=>∃L:β,e=.returned (.int .i64 L)/\(n=0->L=0)/\M f n<2^L/\(n≠0->2^L<=2*M f n)/\w'=w:=by obtain⟨ao,capa,rfl, -, -,ha⟩:=ha.view;exact aDg ao n capa f hn w ha wa na
theorem Int.mul_add_ediv_left'(x y:Int){c}(hc:0<c)(h0:0<=y)(h1:y<c):(c*x+y)/c=x:=oP hc O O
theorem qR(f:β->Int):∀(q d:β),M f (q+d)=M f q+4294967296^q*M (λi=>f (q+i)) d
 |q,0=>by show M f q=M f q+4294967296^q*0;omega
 |q,d+1=>by show M f (q+d)+f (q+d)*4294967296^(q+d)=M f q+4294967296^q*(M (λi=>f (q+i)) d+f (q+d)*4294967296^d);rw[qR f q d,Ca,Dm, <-Av,Bc (f (q+d)),Av (4294967296^q),Int.add_assoc]
theorem aQx(hw:Wd n f)(hi:i/32<n):M f n/2^i%2=f (i/32)/2^(i%32)%2:=by
 obtain⟨d,rfl⟩:∃d,n=i/32+(d+1):=⟨n-i/32-1,O⟩;generalize hq:i/32=q at*;generalize hr:i%32=r at*;have hi2:i=32*q+r:=O;rw[qR];have e1:M (λi=>f (q+i)) (d+1)=f q+4294967296*M (λi=>f (q+(i+1))) d:=by
  have:=qR (λi=>f (q+i)) 1 d;rw[show 1+d=d+1 by omega] at this;rw[this];have e0:M (λi=>f (q+i)) 1=f q:=by show 0+f (q+0)*4294967296^0=f q;simp
  rw[e0];have e2:(λi=>(λi=>f (q+i)) (1+i))=λi=>f (q+(i+1)):=by funext j;show f (q+(1+j))=_;rw[Ey 1 j]
  rw[e2];rfl
 rw[e1];obtain⟨v0,v1⟩:=dP (hw.less (show q<=q+(d+1) by omega));rw[hi2,Ca, <-pG, <-Mh (Ba (φ q)),Hf (M f q),Int.mul_add_ediv_left' _ _ (φ q) v0 v1];have h32:(4294967296:Int)=2^r*2^(32-r):=by rw[<-Ca,show r+(32-r)=32 by omega];rfl
 rw[h32,Av,Int.add_mul_ediv_left _ _ (by have:=iD r;omega)];have h33:(2:Int)^(32-r)=2*2^(31-r):=by rw[show 32-r=(31-r)+1 by omega,Bw,Bc]
 rw[h33,Av];omega
theorem aDJ(b n cap i)f(hn:n<=549755813888)(w)(hr:Δ w b n f)(wa:Wd n f)(hi:i/32<n):θ ζ 156 #[.slice (δ ⟨b,0,γ⟩) n cap,.int .i64 i] w λe w'=>e=.returned (.int .u64 (M f n/2^i%2))/\w'=w:=by
 have hc:=hr (i/32) hi;obtain⟨t0,t1⟩:=wa (i/32) hi;have E:=J (aQx wa hi);have hp:=iD (i%32);have q0:0<=f (i/32)/2^(i%32):=Ei t0 (Ba hp);have q1:f (i/32)/2^(i%32)<=f (i/32):=Fh _ t0;have EA:=J (show æ .and .u64 (f (i/32)/2^(i%32)) 1=f (i/32)/2^(i%32)%2 from by rw[u64_and _ _ q0 O O O];rw[show (1:Int).toNat=1 from rfl,nat_mask1];omega);clear hr wa hp;go_in;go_wp2_with fail;go_ret;exact⟨by rw[I E, <-I EA];rfl,rfl⟩
variable{v:Int}
theorem aGP(h:v%2^k=0)(h2:v/2^k%2=0):v%2^(k+1)=0:=by
 have e1:2^k*(v/2^k)+v%2^k=v:=Fz v (2^k);have e2:2*(v/2^k/2)+v/2^k%2=v/2^k:=Fz _ 2;rw[h,h2] at*;have e3:v=2^(k+1)*(v/2^k/2):=by rw[Bw,Av];rw[show 2*(v/2^k/2)=v/2^k by omega];omega
 rw[e3];exact Int.mul_emod_right _ _
theorem FR(h:v%2^k=0)(h0:0<v):2^k<=v:=by
 rcases Cm v (2^k) with h1|h1
 .rw[Int.emod_eq_of_lt O h1] at h;omega
 exact h1
theorem QH(h:(2:Int)^k<2^m):k<m:=by
 rcases Ar k m with h1|h1
 .exact h1
 obtain⟨d,rfl⟩:∃d,k=m+d:=⟨k-m,O⟩;rw[Ca] at h;have:=Dl (show 1<=(2:Int)^d from iD d) (Ba (iD m));omega
theorem aCk(b bv n cap)(s)f(hn:n<=1000)(h0:n≠0)(w)(hi:IntAt w b s (.slice (δ ⟨bv,0,γ⟩) n cap))(hr:Δ w bv n f)(wa:Wd n f)(na:Nm n f):θ ζ 160 #[.pointer (δ ⟨b,0,γ⟩)] w λe w'=>∃k:β,e=.returned (.int .u64 k)/\k<32*n/\M f n%2^k=0/\M f n/2^k%2=1/\w'=w:=by
 have c1:=hi.cell1;have hpos:=qL wa na h0;have hlt:=(dP wa).2;rw[pG] at hlt;have HP:=J hpos;have HL:=J hlt;have HR:=J hr;have WA:=J wa;have t:((n:Int)==0)=false:=by simp;omega
 clear hi hr wa na hpos hlt h0;go_in;go_wp2_with fail;go_loopw [3] (λns wr=>∃k:β,ns=η .u64 k/\k<32*n/\M f n%2^k=0/\wr=w) (λns _=>32*n-(ξ ns).toNat);case atStart=>exact⟨0,rfl,QH (Int.lt_of_le_of_lt (show (2:Int)^0<=M f n from I HP) (I HL)),by show _%1=0;omega,rfl⟩
 case round=>
  obtain⟨k,rfl,hk,hm,rfl⟩:=hrel;have HM:=J hm;clear hm;go_wp2_with fail;refine (aDJ bv n cap k f O _ (I HR) (I WA) O).mono ?_;rintro e w1 ⟨rfl,rfl⟩;rcases Int.emod_two_eq (M f n/2^k) with h|h
  .have HN:=J (aGP (I HM) h);have hk2:Hid (k+1<32*n):=QH (Int.lt_of_le_of_lt (FR (I HN) (I HP)) (I HL));rw[h];clear h;go_wp2_with fail;go_roundw;case rel=>exact⟨k+1,by go_num,I hk2,I HN,trivial⟩
   case measure=>simp[ξ];omega
  .have HH:=J h;rw[h];clear h;go_wp2_with fail;go_ret;exact⟨k,Z,hk,I HM,I HH,Z⟩
theorem kN(h:k<=m):(2:Int)^k<=2^m:=by obtain⟨d,rfl⟩:∃d,m=k+d:=⟨m-k,O⟩;rw[Ca];have:=Dl (show 1<=(2:Int)^d from iD d) (Ba (iD k));omega
theorem GD(h:¬χ x):fO x=true:=by
 cases hx:fO x
 .exact ρ (aCA hx) h
 rfl
theorem aPW(h1:v%2^k=0)(h2:v/2^k%2=1)(h3:9223372036854775808<=v)(h4:v<18446744073709551616):(((k):Int)==63)=decide (v=9223372036854775808):=by
 by_cases hk:k=63
 .subst hk;have e:(2:Int)^63=9223372036854775808:=by decide
  rw[e] at h1 h2;rw[Xt O];rfl
 have hne:((k:Int)==63)=false:=by simp;omega
 rw[hne]
 symm;apply Xf;intro hv;subst hv;rcases Ar k 63 with h|h
 .obtain⟨d,hd⟩:∃d,63=k+(d+1):=⟨62-k,O⟩;have e:(9223372036854775808:Int)=2^k*(2^d*2):=by rw[<-Bw, <-Ca, <-hd];decide
  rw[e,Int.mul_ediv_cancel_left _ (by have:=iD k;omega)] at h2;omega
 have:=FR h1 Yc;have h64:=kN (show 64<=k by omega);have e:(2:Int)^64=18446744073709551616:=by decide
 omega
theorem MC(b)(x)(w)(hx:Num w b x)(dx:Bd x):θ ζ 95 #[.pointer (δ ⟨b,0,γ⟩)] w λe w'=>e=.returned (.bool (!fO x))/\w'=w:=by
 obtain⟨neg,v,n,f,h1,h2,h3,h4,h5,h6⟩:=hx;have hn:n<=100:=by unfold Bd at dx;rw[h5,jY (dP h3).1] at dx;exact jJ h3 h4 dx
 have c0:=h1.cell0;have c1:=h1.cell1;have H1:=J h1;have H2:=J h2;have H3:=J h3;have H4:=J h4;have H5:=J h5;obtain⟨ao,cap,rfl, -, -, -⟩:=h2.view;clear h1 h2 h3 h4 h5 h6 dx;go_in;go_wp2_with fail;refine (I8 _ n f O _ (I H2) (I H3) (I H4)).mono ?_;rintro e w1 ⟨L,rfl,l0,l1,l2,rfl⟩;have v0:=(dP (I H3)).1;rcases uG L 64 with hL|hL|hL
 .have E:=J (show fO x=false from by
   apply vJ;have:=kN (show L<=63 by omega);have e:(2:Int)^63=9223372036854775808:=by decide
   rw[I H5];unfold χ cK;cases neg
   .rw[μ Yc];omega
   rw[π Z];omega)
  clear l0 l1 l2 v0;go_wp2_with fail;go_ret;exact⟨by rw[I E];rfl,rfl⟩
 .subst hL;have hn0:n≠0:=λh=>ρ (l0 h) Yc;have l3:=l2 hn0;have e64:(2:Int)^64=18446744073709551616:=by decide
  rw[e64] at l1 l3;cases neg
  .have E:=J (show fO x=true from by rw[I H5];exact C8 (z:=M f n) O);clear l0 l1 l2 l3 v0 e64 hn0;go_wp2_with fail;go_ret;exact⟨by rw[I E];rfl,rfl⟩
  have hsl:=I H2;rcases hsl with ⟨-,h⟩|⟨bv,cap',hv, -, -, -,hr⟩
  .exact ρ h hn0
  obtain⟨rfl,rfl⟩:ao=δ ⟨bv,0,γ⟩/\cap=cap':=by cases hv;exact⟨Z,Z⟩
  have HR:=J hr;have L1:=J l1;have L3:=J l3;have HN0:=J hn0;clear l0 l1 l2 l3 v0 e64 hn0 hr hv;go_wp2_with fail;refine (aCk b bv n cap (σ true) f O (I HN0) _ (I H1) (I HR) (I H3) (I H4)).mono ?_;rintro e w2 ⟨k,rfl,k0,k1,k2,rfl⟩;have E:=J (aPW k1 k2 (by have:=I L3;omega) (I L1));have EB:=J (show fO x= !decide (M f n=9223372036854775808) from by
   have h3':=I L3;rw[I H5];show fO (-M f n)=_;by_cases h:M f n=9223372036854775808
   .rw[Xt h,h];decide
   rw[Xf h,wR (z:= -M f n) O];rfl)
  clear k1 k2;cases hd:decide (M f n=9223372036854775808)
  .have t:((k:Int)==63)=false:=(I E).trans hd;have HD:=J hd;clear hd;go_wp2_with fail;go_ret;exact⟨by rw[I EB,I HD];rfl,rfl⟩
  have t:((k:Int)==63)=true:=(I E).trans hd;have HD:=J hd;clear hd;go_wp2_with fail;go_ret;exact⟨by rw[I EB,I HD];rfl,rfl⟩
 have hn0:n≠0:=λh=>ρ (l0 h) O;have l3:=l2 hn0;have E:=J (show fO x=true from by
  have:=kN (show 65<=L by omega);have e:(2:Int)^65=36893488147419103232:=by decide
  apply GD;rw[I H5];unfold χ cK;cases neg
  .rw[μ Yc];omega
  rw[π Z];omega)
 clear l0 l1 l2 l3 v0 hn0;have t:((L:Int)==64)=false:=by simp;omega
 go_wp2_with fail;go_ret;exact⟨by rw[I E];exact ê (λb=>é (Value.bool b)) (Xf O),Z⟩
theorem DF(x y)(x0:0<=x)(x1:x<4294967296)(y0:0<=y)(y1:y<4294967296):æ .or .u64 y (x*4294967296)=x*4294967296+y:=by rw[<-yN x y x0 x1 y0 y1];rw[u64_or _ _ y0 O O O,u64_or _ _ O O y0 O,Nat.or_comm]
theorem IU(b)(x)(w)(hx:Num w b x)(rx:χ x):θ ζ 96 #[.pointer (δ ⟨b,0,γ⟩)] w λe w'=>e=.returned (.int .i64 x)/\w'=w:=by
 obtain⟨neg,v,n,f,h1,h2,h3,h4,h5,h6⟩:=hx;have v0:=(dP h3).1;have habs:M f n<=9223372036854775808/\(neg=false->M f n<=9223372036854775807):=by
  unfold χ at rx;rw[h5] at rx;unfold cK at rx;cases neg
  .rw[μ Yc] at rx;exact⟨O,λ_=>by omega⟩
  rw[π Z] at rx;exact⟨O,λh=>by cases h⟩
 have hn:n<=2:=by apply jJ h3 h4;show M f n<18446744073709551616;omega
 have c0:=h1.cell0;have c1:=h1.cell1;have H5:=J h5;rcases (show n=0\/n=1\/n=2 by omega) with rfl|rfl|rfl
 .have hv:x=0:=by rw[h5,h6 Z];rfl
  have hneg:=h6 Z;subst hneg;have HV:=J hv;obtain⟨ao,cap,rfl, -, -, -⟩:=h2.view;clear h1 h2 h3 h4 h5 h6 hv habs v0 rx;go_in;go_wp2;go_ret;exact⟨by rw[I HV];rfl,rfl⟩
 .have ev:M f 1=f 0:=by show 0+f 0*4294967296^0=f 0;simp
  rw[ev] at habs;obtain⟨t0,t1⟩:=h3 0 O;rcases h2 with ⟨-,h⟩|⟨bv,cap,rfl, -, -, -,hr⟩
  .cases h
  have k0:=hr 0 O;cases neg
  .have HV:=J (show x=f 0 by rw[h5,ev];rfl);clear h1 h3 h4 h5 h6 habs v0 rx hr ev;go_in;go_wp2;go_ret;exact⟨by rw[I HV];rfl,rfl⟩
  have HV:=J (show x= -f 0 by rw[h5,ev];rfl);clear h1 h3 h4 h5 h6 habs v0 rx hr ev;go_in;go_wp2;go_ret;exact⟨by rw[I HV];rfl,rfl⟩
 have ev:M f 2=f 0+f 1*4294967296:=by show 0+f 0*4294967296^0+f 1*4294967296^1=_;simp
 rw[ev] at habs;obtain⟨t0,t1⟩:=h3 0 O;obtain⟨t2,t3⟩:=h3 1 O;rcases h2 with ⟨-,h⟩|⟨bv,cap,rfl, -, -, -,hr⟩
 .cases h
 have k0:=hr 0 O;have k1:=hr 1 O;have eo:=DF (f 1) (f 0) t2 t3 t0 t1;obtain⟨u,eu⟩:∃u,f 0+f 1*4294967296=u:=⟨_,rfl⟩;rw[show f 1*4294967296+f 0=u by omega] at eo;rw[eu] at habs;have u0:0<=u:=O;cases neg
 .have HV:=J (show x=u by rw[h5,ev,eu];rfl);have u1:=habs.2 Z;clear h1 h3 h4 h5 h6 habs v0 rx hr ev eu;go_in;go_wp2;go_ret;exact⟨by rw[I HV];rfl,rfl⟩
 have HV:=J (show x=ë (-ë u) by rw[h5,ev,eu];show -u=_;unfold ë;have:=habs.1;omega);have u1:=habs.1;clear h1 h3 h4 h5 h6 habs v0 rx hr ev eu;go_in;go_wp2;go_ret;exact⟨by rw[I HV];rfl,rfl⟩
theorem aBV(b)(x)(w)(hx:Num w b x):θ ζ 289 #[.pointer (δ ⟨b,0,γ⟩)] w λe w'=>e=.returned (.int .i64 (sH x 0))/\w'=w:=by
 obtain⟨neg,v,n,f,h1,h2,h3,h4,h5,h6⟩:=hx;have c0:=h1.cell0;have c1:=h1.cell1;obtain⟨ao,cap,rfl, -, -, -⟩:=h2.view;rcases Bj n with h0|h0
 .subst h0;have E:=J (aDP (show x=0 by rw[h5,h6 Z];rfl));clear h1 h2 h3 h4 h5 h6;go_in;go_wp2;go_ret;exact⟨by rw[I E];rfl,rfl⟩
 have t:((n:Int)==0)=false:=by simp;omega
 have hp:=qL h3 h4 O;cases neg
 .have E:=J (KO (show 0<x by rw[h5];exact hp));clear h1 h2 h3 h4 h5 h6 hp;go_in;go_wp2;go_ret;exact⟨by rw[I E];rfl,rfl⟩
 have E:=J (AU (show x<0 by rw[h5];show -M f n<0;omega));clear h1 h2 h3 h4 h5 h6 hp;go_in;go_wp2;go_ret;exact⟨by rw[I E];rfl,rfl⟩
theorem vD(b)(x)(w)(hx:Num w b x)(dx:Bd x):θ ζ 268 #[.pointer (δ ⟨b,0,γ⟩)] w λe w'=>e=.returned (.tuple #[.int .i64 (gD x),.bool (fO x)])/\w'=w:=by
 have HX:=J hx;have DX:=J dx;clear hx dx;go_in;go_wp2_with fail;refine (MC b x _ (I HX) (I DX)).mono ?_;rintro e w1 ⟨rfl,rfl⟩;by_cases h:χ x
 .rw[vJ h];have E:=J (yG h);have HR:=J h;have hx1:=h.1;have hx2:=h.2;clear h;go_wp2_with fail;refine (IU b x _ (I HX) (I HR)).mono ?_;rintro e w2 ⟨rfl,rfl⟩;go_wp2_with fail;go_ret2;exact⟨by rw[I E,vJ (I HR)];rfl,rfl⟩
 rw[GD h];have EB:=J (GD h);by_cases hp:0<x
 .have E:=J (yH (show 9223372036854775807<x by unfold χ at h;omega));have EC:=J (KO hp);clear h;go_wp2_with fail;refine (aBV b x _ (I HX)).mono ?_;rintro e w2 ⟨rfl,rfl⟩;rw[I EC];go_wp2_with fail;go_ret2;exact⟨by rw[I E,I EB];rfl,rfl⟩
 have E:=J (uR (show x< -9223372036854775808 by unfold χ at h;omega));have EC:=J (AU (show x<0 by unfold χ at h;omega));clear h hp;go_wp2_with fail;refine (aBV b x _ (I HX)).mono ?_;rintro e w2 ⟨rfl,rfl⟩;rw[I EC];go_wp2_with fail;go_ret2;exact⟨by rw[I E,I EB];rfl,rfl⟩
theorem vF(h:ε x<4294967296^k)(hk:k<=100):Bd x:=by unfold Bd;obtain⟨d,hd⟩:∃d,100=k+d:=⟨100-k,O⟩;rw[hd,Ca];have:=Dl (show 1<=(4294967296:Int)^d from φ d) (Ba (φ k));omega
theorem qV(h:χ x):Bd x:=vF (k:=2) (by have:=jB h;show _<(18446744073709551616:Int);omega) Yc
theorem BV(x y):ε (x+y)<=ε x+ε y:=by unfold ε;split<;>split<;>split<;>omega
theorem ZU(x y):ε (x-y)<=ε x+ε y:=by unfold ε;split<;>split<;>split<;>omega
theorem bZ{B}{a b c}(h:Below B a b)(k:Below b.heap.size b c)(hB:B<=b.heap.size):Below B a c:=h.trans (k.mono hB)
theorem gB{w1 w2}(h:Below w.heap.size w w1)(k:ν z w1 w2)(hz:w.heap.size<=z):Below w.heap.size w w2:=
 ((Ch (z:=z) h).trans k (Aa rfl)).below hz
theorem aFA(a b)(ha:χ a)(hb:χ b)(w):θ ζ 240 #[.int .i64 a,.int .i64 b] w λe w'=>e=.returned (.tuple #[.int .i64 (gD (a+b)),.bool (fO (a+b))])/\Below w.heap.size w w':=by
 have HA:=J ha;have HB:=J hb;have D:=J (show Bd (a+b) from vF (k:=3) (by have h1:=jB ha;have h2:=jB hb;have h3:=BV a b;show _<(79228162514264337593543950336:Int);omega) Yc);clear ha hb;go_in;go_wp2_with fail;refine (jG a (I HA) _).mono ?_;rintro e w1 ⟨b1,rfl,hb1,n1,k1⟩;have N1:=J n1;have K1:=J k1;clear n1 k1 hb1;go_wp2_with fail;refine (jG b (I HB) _).mono ?_;rintro e w2 ⟨b2,rfl,hb2,n2,k2⟩;have N2:=J n2;have K2:=J k2;clear n2 k2 hb2;have HW:=J (show Below w.heap.size w w2 from by have h1:=bZ (fQ w _) (I K1) (by simp);exact bZ h1 (I K2) h1.size);go_wp2_with fail;refine (rA w.heap.size b1 b2 a b _ _ _ (((kV w).below (I K1)).below (I K2)) ((I N1).below (I K2)) (I N2) (qV (I HA)) (qV (I HB))).mono ?_;rintro e w3 ⟨rfl,n3,k3⟩;have N3:=J n3;have HW3:=J (gB (I HW) k3 (Xr _));clear n3 k3;go_wp2_with fail;refine (vD _ _ _ (I N3) (I D)).mono ?_;rintro e w4 ⟨rfl,rfl⟩;go_wp2_with fail;go_ret2;exact⟨Z,I HW3⟩
theorem aFG(a b)(ha:χ a)(hb:χ b)(w):θ ζ 238 #[.int .i64 a,.int .i64 b] w λe w'=>e=.returned (.tuple #[.int .i64 (gD (a-b)),.bool (fO (a-b))])/\Below w.heap.size w w':=by
 have HA:=J ha;have HB:=J hb;have D:=J (show Bd (a-b) from vF (k:=3) (by have h1:=jB ha;have h2:=jB hb;have h3:=ZU a b;show _<(79228162514264337593543950336:Int);omega) Yc);clear ha hb;go_in;go_wp2_with fail;refine (jG a (I HA) _).mono ?_;rintro e w1 ⟨b1,rfl,hb1,n1,k1⟩;have N1:=J n1;have K1:=J k1;clear n1 k1 hb1;go_wp2_with fail;refine (jG b (I HB) _).mono ?_;rintro e w2 ⟨b2,rfl,hb2,n2,k2⟩;have N2:=J n2;have K2:=J k2;clear n2 k2 hb2;have HW:=J (show Below w.heap.size w w2 from by have h1:=bZ (fQ w _) (I K1) (by simp);exact bZ h1 (I K2) h1.size);go_wp2_with fail;refine (QQ w.heap.size b1 b2 a b _ _ _ (((kV w).below (I K1)).below (I K2)) ((I N1).below (I K2)) (I N2) (qV (I HA)) (qV (I HB))).mono ?_;rintro e w3 ⟨rfl,n3,k3⟩;have N3:=J n3;have HW3:=J (gB (I HW) k3 (Xr _));clear n3 k3;go_wp2_with fail;refine (vD _ _ _ (I N3) (I D)).mono ?_;rintro e w4 ⟨rfl,rfl⟩;go_wp2_with fail;go_ret2;exact⟨Z,I HW3⟩
theorem aCm(x y)(s)(hs:s<=32)(x0:0<=x)(x1:x<2^s)(y0:0<=y)(y1:y<4294967296)(hy:y%2^s=0):æ .or .u32 x y=x+y/\x+y<4294967296:=by
 obtain⟨x,rfl⟩:=aB x0;obtain⟨y,rfl⟩:=aB y0;have c:((2:Int)^s)=((2^s:β):Int):=by simp
 rw[c] at x1 hy;have x2:x<2^s:=O;have y2:y%2^s=0:=O;have h32:2^s*2^(32-s)=4294967296:=by rw[<-Nat.pow_add,show s+(32-s)=32 by omega]
 have hsum:x+y<4294967296:=by
  have e:2^s*(y/2^s)+y%2^s=y:=Nat.div_add_mod y (2^s);have hlt:y/2^s<2^(32-s):=by rw[Ia (Nat.two_pow_pos s),Dk,h32];omega
  have:=Nat.mul_le_mul_left (2^s) (show y/2^s+1<=2^(32-s) from hlt);rw[h32,Nat.mul_add,Cs] at this;omega
 have hle:2^s<=4294967296:=by rw[<-h32];exact Nat.le_mul_of_pos_right _ (Nat.two_pow_pos _)
 have h:=u32_or_nat x y O O;rw[Nat.or_comm,nat_join s y x y2 x2] at h;refine⟨by rw[h];omega,O⟩
theorem aHw {fa g : β -> Int} {ww s: β} (hs : s < 32) (hw : ∀ j, 0 <= g j /\ g j < 4294967296) (hc : g (k + ww) < 2 ^ s) (hz : ∀ j, k + ww < j -> g j = 0) (h : M g (k + ww + 1) = M fa k * 2 ^ s * 4294967296 ^ ww) (a0 : 0 <= fa k) (a1 : fa k < 4294967296) : let x := fa k * 2 ^ s
  æ .or .u32 (g (k+ww)) (x%4294967296)=g (k+ww)+x%4294967296/\æ .or .u32 (g (k+ww+1)) (x/4294967296)=x/4294967296/\
  (∀j,0<=upd (upd g (k+ww) (g (k+ww)+x%4294967296)) (k+ww+1) (x/4294967296) j/\upd (upd g (k+ww) (g (k+ww)+x%4294967296)) (k+ww+1) (x/4294967296) j<4294967296)/\
  upd (upd g (k+ww) (g (k+ww)+x%4294967296)) (k+ww+1) (x/4294967296) (k+1+ww)<2^s/\
  (∀j,k+1+ww<j->upd (upd g (k+ww) (g (k+ww)+x%4294967296)) (k+ww+1) (x/4294967296) j=0)/\
  M (upd (upd g (k+ww) (g (k+ww)+x%4294967296)) (k+ww+1) (x/4294967296)) (k+1+ww+1)=M fa (k+1)*2^s*4294967296^ww:=by
 intro x;have hp:=iD s;have x0:0<=x:=Hg a0 (Ba hp);have h32:(2:Int)^s*2^(32-s)=4294967296:=by rw[<-Ca,show s+(32-s)=32 by omega];rfl
 have hq:=iD (32-s);have hi1:x/4294967296<2^s:=by rw[Ii Yc];have:=Iz a1 hp;rw[Bc (2^s)];exact this
 have hi0:0<=x/4294967296:=O;have hs32:(2:Int)^s<=4294967296:=by have:=Dl (show 1<=(2:Int)^(32-s) from hq) (Ba hp);omega
 have hlo:x%4294967296%2^s=0:=by have hd:(2^s:Int)∣4294967296:=⟨_,h32.symm⟩;rw[Int.emod_emod_of_dvd _ hd];exact Int.mul_emod_left _ _
 obtain⟨j1,j2⟩:=aCm (g (k+ww)) (x%4294967296) s O (hw _).1 hc O O hlo;have hz1:g (k+ww+1)=0:=hz _ O;have j3:=(aCm 0 (x/4294967296) 0 O O Yc hi0 O O).1;refine⟨j1,by rw[hz1,j3];omega,?_,?_,?_,?_⟩
 .intro j;unfold upd;split
  .exact⟨hi0,O⟩
  split
  .exact⟨by have:=(hw (k+ww)).1;omega,j2⟩
  exact hw j
 .rw[show k+1+ww=k+ww+1 by omega,FE];exact hi1
 .intro j hj;rw[jF _ _ O,jF _ _ O];exact hz j O
 .rw[show k+1+ww+1=k+ww+1+1 by omega,oQ,oQ];have e1:M g (k+ww+1)=M g (k+ww)+g (k+ww)*4294967296^(k+ww):=rfl;have e2:M fa (k+1)=M fa k+fa k*4294967296^k:=rfl;have e3:x%4294967296*4294967296^(k+ww)+x/4294967296*4294967296^(k+ww+1)=x*4294967296^(k+ww):=by rw[Bw,Bc (4294967296^(k+ww)) 4294967296, <-Av, <-Bi];congr 1;omega
  have e4:fa k*4294967296^k*2^s*4294967296^ww=x*4294967296^(k+ww):=by show _=fa k*2^s*4294967296^(k+ww);rw[Ca,Ib (fa k),Av]
  have e5:(M fa k+fa k*4294967296^k)*2^s*4294967296^ww=M fa k*2^s*4294967296^ww+fa k*4294967296^k*2^s*4294967296^ww:=by rw[Bi,Bi]
  rw[e2,e5, <-h,e1,e4,Bi];omega
theorem aHv(ao)(n cap ww s)fa(h0:0<n)(hn:n<=100000)(hww:ww<=100000)(hs:s<32)(w)(ha:Has w ao n fa)(wa:Wd n fa):θ ζ 157 #[.slice ao n cap,.int .u64 ((32*ww+s:β))] w λe w'=>∃(v:τ) (l:β) (f:β->Int),e=.returned v/\Sl w' v l f/\Wd l f/\Nm l f/\M f l=M fa n*2^s*4294967296^ww/\Below w.heap.size w w':=by
 have hmk:=λwx=>run_make_row' (P:=ζ) 139 168 (η .u32 0) 4 Ec Tryz.infoU32 Z ο ο (n+ww+1) O O wx;rw[show ((n+ww+1:β):Int)=(n:Int)+(ww:Int)+1 by omega] at hmk;obtain⟨p,ep⟩:∃p:Int,((32*ww+s:β):Int)=p:=⟨_,rfl⟩;have e1:p/32=(ww:Int):=O;have e2:p%32=(s:Int):=O;have p0:0<=p:=O;have p1:p<4000000:=O;rw[ep];have t:((n:Int)==0)=false:=by simp;omega
 have HA:=J ha;have WA:=J wa;clear ha wa ep;go_in;go_wp2_with fail;clear hmk e1;go_loopw [8] (λis wr=>∃(k:β) (g:β->Int),is=η ο k/\k<=n/\Own wr w.heap.size (n+ww+1) g/\(∀j,0<=g j/\g j<4294967296)/\g (k+ww)<2^s/\(∀j,k+ww<j->g j=0)/\M g (k+ww+1)=M fa k*2^s*4294967296^ww/\Below w.heap.size w wr)
  (λis _=>n-(ξ is).toNat)
 case atStart=>exact⟨0,_,rfl,Xz _,tX w (n+ww+1),λ_=>⟨Bp _,by decide⟩,iD s,λ_ _=>rfl,by rw[gV (m:=0) O (λ_ _ _=>rfl)];show 0=0*2^s*4294967296^ww;rw[Fa,Fa],fQ w _⟩
 case round=>
  obtain⟨k,g,rfl,hk,hO,hW,hc,hz,hv,hBl⟩:=hrel;have HO:=J hO;have HW:=J hW;have HC:=J hc;have HZ:=J hz;have HV:=J hv;have HBl:=J hBl;clear hO hW hc hz hv hBl;by_cases hkn:k<n
  .obtain⟨ba,rfl,hba,hra⟩:=Has.below' (I HA) (I HBl) O;have ca:=hra k hkn;obtain⟨a0,a1⟩:=I WA k hkn;obtain⟨q1,q2,q3,q4,q5,q6⟩:=aHw hs (I HW) (I HC) (I HZ) (I HV) a0 a1;obtain⟨x,ex⟩:∃x,fa k*2^s=x:=⟨_,rfl⟩;have x0:0<=x:=by rw[<-ex];exact Hg a0 (Ba (iD s))
   have x1:x<18446744073709551616:=by
    have h1:=Iz a1 (iD s);have h2:=kN (show s<=32 by omega);have e3:(2:Int)^32=4294967296:=by decide
    rw[ex] at h1;omega
   rw[ex] at q1 q2 q3 q4 q5 q6;have g0:=(I HW (k+ww));obtain⟨y,ey⟩:∃y,g (k+ww)+x%4294967296=y:=⟨_,rfl⟩;rw[ey] at q1 q3 q4 q5 q6;have Q3:=J q3;have Q4:=J q4;have Q5:=J q5;have Q6:=J q6;have co:=(I HO).cell (show k+ww<n+ww+1 by omega);have fo:=(I HO).free (k+ww);have HO2:=J ((I HO).set (k+ww) y);have co2:=(I HO2).cell (show k+ww+1<n+ww+1 by omega);rw[jF _ _ O] at co2;have fo2:=(I HO2).free (k+ww+1);clear hra q3 q4 q5 q6 g0;go_wp2_with fail;go_roundw;case rel=>exact⟨k+1,_,by go_num,O,(I HO2).set (k+ww+1) (x/4294967296),I Q3,I Q4,I Q5,I Q6,((I HBl).setCell (Xr _) _).setCell (Xr _) _⟩
   case measure=>simp[ξ];omega
  .have hkn2:k=n:=O;subst hkn2;have HWD:=J (show Wd (k+ww+1) g from λi _=>I HW i);have HOL:=J (I HO).lt;go_wp2_with fail;refine (mP w.heap.size (k+ww+1) (k+ww+1) g (Xr _) O _ (I HO).row).mono ?_;rintro e w1 ⟨l,rfl,hl,hz,hnm,rfl⟩;have F:=J (show Sl w1 (ι (δ ⟨w.heap.size,0,γ⟩) l (k+ww+1)) l g/\Wd l g/\Nm l g/\M g l=M fa k*2^s*4294967296^ww/\Below w.heap.size w w1 from
    ⟨Ab ⟨_,_,rfl,hl,O,I HOL,(I HO).row.less hl⟩,(I HWD).less hl,hnm,by rw[<-gV hl hz];exact I HV,I HBl⟩)
   clear hz hnm;go_wp2_with fail;go_ret;exact⟨_,l,_,Z,I F⟩
theorem CW(va)(n p:β)fa(hn:n<=100000)(hp:p<=3000000)(w)(ha:Sl w va n fa)(wa:Wd n fa):θ ζ 157 #[va,.int .u64 (p)] w λe w'=>∃(v:τ) (l:β) (f:β->Int),e=.returned v/\Sl w' v l f/\Wd l f/\Nm l f/\M f l=M fa n*2^p/\Below w.heap.size w w':=by
 obtain⟨ao,cap,rfl, -, -,ha⟩:=ha.view;rcases Bj n with h0|h0
 .subst h0;clear ha wa;go_in;go_wp2_with fail;go_ret;exact⟨_,0,fa,Z,Aa ⟨Z,Z⟩,λi hi=>ρ hi O,Aa Z,by show 0=0*2^p;rw[Fa],Af _ _⟩
 have h:=aHv ao n cap (p/32) (p%32) fa h0 hn O O w ha wa;rw[show 32*(p/32)+p%32=p by omega] at h;refine h.mono ?_;rintro e w' ⟨v,l,f,h1,h2,h3,h4,h5,h6⟩;refine⟨v,l,f,h1,h2,h3,h4,?_,h6⟩;rw[h5,pG,Av, <-Ca,show p%32+32*(p/32)=p by omega]
def One(bx:β)(xs xv:τ)(w:ψ):Prop:=w.cell? ⟨bx,0,γ⟩=δ xs/\w.cell? ⟨bx,1,γ⟩=δ xv
theorem One.below{xs xv}(h:One bx xs xv w)(k:Below w.heap.size w w'):One bx xs xv w':=⟨lG h.1 k,lG h.2 k⟩
theorem xO(z bx p:β)(x)(hp:p<=3000000)(s0)(v0)(w)(hz:IntAt w z (.bool s0) v0)(hx:Num w bx x)(dx:Bd x):θ ζ 92 #[.pointer (δ ⟨z,0,γ⟩),.pointer (δ ⟨bx,0,γ⟩),.int .u64 (p)] w λe w'=>e=.returned (.pointer (δ ⟨z,0,γ⟩))/\Num w' z (x*2^p)/\ν z w w':=by
 obtain⟨xn,xv,n,fa,hx1,hx2,hx3,hx4,hx5,hx6⟩:=hx;have hn:n<=100:=by unfold Bd at dx;rw[hx5,jY (dP hx3).1] at dx;exact jJ hx3 hx4 dx
 have c1:=hx1.cell0;have c2:=hx1.cell1;have HX2:=J hx2;have HX3:=J hx3;have E:=J (show cK xn (M fa n*2^p)=x*2^p by rw[hx5];cases xn;rfl;show -(M fa n*2^p)= -M fa n*2^p;rw[Fj]);have HZ:=J hz;obtain⟨ao,capa,rfl, -, -, -⟩:=hx2.view;clear hx1 hx2 hx3 hx4 hx5 hx6 hz dx;go_in;go_wp2_with fail;refine dY (S:=One bx (σ xn) (ι ao n capa))
  [(0,false),(1,false),(2,false),(3,false),(4,false),(5,false),(6,false),(7,false),(8,false),(9,false),(10,true),(11,true),(12,true)] [11,12] Yl Yl ?_
 have hS:One bx (σ xn) (ι ao n capa) w.drew:=⟨c1,c2⟩;clear c1 c2;iterate 10
  refine bG (v:=?_) Z (λ_ _ _ h=>h) (by rfl) hS ?_ ?_;rotate_left 1
  .intro wx hwx;obtain⟨k1,k2⟩:=hwx;go_simp<;>exact rfl
  go_frame
 refine bD Z (λK hK=>?_);go_simp;refine (CW _ n p fa O hp _ (by exact I HX2) (I HX3)).mono ?_;rintro e w1 ⟨v,l,f,rfl,h2,h3,h4,h5,h6⟩;have H2:=J h2;have H3:=J h3;have H4:=J h4;have H5:=J h5;have H6:=J h6;obtain⟨vo,cap,rfl, -, -, -⟩:=h2.view;have hS1:=hS.below h6;refine hK _ _ (λ_=>hS1) ?_;clear hS hK K h2 h3 h4 h5 h6 hS1;refine bD Z (λK hK=>?_);go_simp;refine (lZ z _ _ _ _ _ _ _ (IntAt.below (w:=w.drew) (I HZ) (I H6))).mono ?_;rintro e w2 ⟨rfl,g1,g2⟩;refine hK _ _ (λh=>by cases h) ?_;have F:=J (show Num w2 z (x*2^p)/\ν z w w2 from by have hsl:=(I H2).other g2 (IntAt.below (w:=w.drew) (I HZ) (I H6));have hnum:=jC g1 hsl (I H3) (I H4);rw[I H5,I E] at hnum;exact⟨hnum,(Ch (show Below w.heap.size w w1 from ((Drw.refl w).drew.below _).trans (I H6))).trans g2 (Aa Z)⟩);clear g1 g2 hK K;refine bD Z (λK hK=>?_);go_simp;refine hK _ _ (λh=>by cases h) ?_;clear hK K;refine fZ ?_;go_wp2_with fail;go_ret;exact⟨Z,(I F).1,(I F).2⟩
theorem XB(p:β)(hp:p<=3000000)(w):θ ζ 269 #[.int .u64 (p)] w λe w'=>∃b,e=.returned (.pointer (δ ⟨b,0,γ⟩))/\w.heap.size<=b/\Num w' b (2^p)/\Below w.heap.size w w':=by go_in;go_wp2_with fail;refine (pE 1 (by unfold χ;omega) _).mono ?_;rintro e w1 ⟨b1,rfl,hb1,n1,k1⟩;have N1:=J n1;have K1:=J k1;clear n1 k1 hb1;go_wp2_with fail;refine (xO w.heap.size b1 p 1 hp _ _ _ ((kV w).below (I K1)) (I N1) (qV (by unfold χ;omega))).mono ?_;rintro e w2 ⟨rfl,n2,k2⟩;rw[Fy] at n2;have N2:=J n2;have HW:=J (gB (bZ (fQ w _) (I K1) (by simp)) k2 (Xr _));clear n2 k2;go_wp2_with fail;go_ret;exact⟨_,Z,Xr _,I N2,I HW⟩
theorem aFS{base}{v}{xs}(h:w.ownsRow base 168 1 v n xs)(hx:∀i,i<n->xs[i]?=δ (.int .u32 (f i))):Sl w v n f:=by
 have h0:=h;obtain⟨hl,h1⟩:=h;rcases h1 with ⟨rfl,rfl⟩|⟨g,cap,cur,rfl,hg,hh,hc,hm,hsz,hcur⟩
 .exact Aa ⟨Z,Z⟩
 exact Ab ⟨g,cap,Z,hc,hm,Cq hh,λi hi=>by rw[h0.cellAt i O];exact hx i hi⟩
theorem UC(h:w.grownBy w' γ):Below w.heap.size w w':=⟨h.os,h.tape,h.output,h.size,λk hk=>h.block k hk (by simp)⟩
theorem uM(va)(n)f(hn:n<=100000)(w)(ha:Sl w va n f):θ ζ 113 #[va] w λe w'=>∃v,e=.returned v/\Sl w' v n f/\Below w.heap.size w w':=by
 obtain⟨i0,hi,hz0,hz1,hz2⟩:=Ef Tryz.infoU32;rcases ha with ⟨rfl,rfl⟩|⟨b,cap,rfl,h1,h2,h3,h4⟩
 .go_in;go_wp2_with (at_builtin;refine wpList_append_own_none Z _ _ 139 Z w.heap.size 168 i0 1 Ec hi (ι γ 0 0) 0 [] Z (Am _ _ _ _) Z ?_);go_ret;exact⟨_,Z,Aa ⟨Z,Z⟩,Af _ _⟩
 have HR:=J h4;have hnews:∀(j:β) (u:τ),((Λ n).map (λi=>ω .u32 (f i)))[j]?=δ u->w.cell? ((⟨b,0,γ⟩:å).add j)=δ u:=by
  intro j u hj;rw[Bu] at hj;rcases Ar j n with h|h
  .rw[Cr h] at hj;have:=h4 j h;simp at hj;subst hj;have e:(⟨b,0,γ⟩:å).add j=⟨b,j,γ⟩:=by unfold Addr.add;by_cases hj0:j=0<;>simp[hj0]
   rw[e];exact this
  rw[List.getElem?_eq_none (by simpa using h)] at hj;cases hj
 have h1c:∀u∈(Λ n).map (λi=>ω .u32 (f i)),u.oneCell'=true:=by intro u hu;obtain⟨i,_,rfl⟩:=Eh.1 hu;rfl
 have hx:∀i,i<n->((Λ n).map (λi=>ω .u32 (f i)))[i]?=δ (η .u32 (f i)):=by intro i hi;rw[Bu,Cr hi];rfl
 have HX:=J hx;have H1C:=J h1c;have HNW:=J hnews;have hlen:Hid (((Λ n).map (λi=>ω .u32 (f i))).length=n*1):=by show _=_;simp
 clear h4 hnews h1c hx;generalize (Λ n).map (λi=>ω .u32 (f i))=news at*;go_in;go_wp2_with (at_builtin;refine wpList_append_own _ Z _ _ 139 Z w.heap.size 168 i0 (η .u32 0) 1 4 Ec hi hz0 hz1 hz2 Z Yc (ι γ 0 0) 0 [] Z (Am _ _ _ _) ⟨b,0,γ⟩ n cap news Z (I hlen) (I HNW) (I H1C) Ym O (Xr _) ?_);intro v' w1 hown hgr hnil;have F:=J (show Sl w1 v' n f/\Below w.heap.size w w1 from by exact⟨aFS hown (I HX),UC hgr⟩);clear hown hgr hnil;go_wp2_with fail;go_ret;exact⟨_,Z,I F⟩
theorem VR(z bx)(x)(s0)(v0)(w)(hz:IntAt w z (.bool s0) v0)(hx:Num w bx x)(dx:Bd x):θ ζ 151 #[.pointer (δ ⟨z,0,γ⟩),.pointer (δ ⟨bx,0,γ⟩)] w λe w'=>e=.returned (.pointer (δ ⟨z,0,γ⟩))/\Num w' z x/\ν z w w':=by
 obtain⟨xn,xv,n,fa,hx1,hx2,hx3,hx4,hx5,hx6⟩:=hx;have hn:n<=100:=by unfold Bd at dx;rw[hx5,jY (dP hx3).1] at dx;exact jJ hx3 hx4 dx
 have c1:=hx1.cell0;have c2:=hx1.cell1;have HX2:=J hx2;have HX3:=J hx3;have HX4:=J hx4;have E:=J hx5;have HZ:=J hz;obtain⟨ao,capa,rfl, -, -, -⟩:=hx2.view;clear hx1 hx2 hx3 hx4 hx5 hx6 hz dx;go_in;go_wp2_with fail;refine dY (S:=One bx (σ xn) (ι ao n capa))
  [(0,false),(1,false),(2,false),(3,false),(4,false),(5,false),(6,false),(7,false),(8,false),(9,true),(10,true),(11,true)] [10,11] Yl Yl ?_
 have hS:One bx (σ xn) (ι ao n capa) w.drew:=⟨c1,c2⟩;clear c1 c2;iterate 9
  refine bG (v:=?_) Z (λ_ _ _ h=>h) (by rfl) hS ?_ ?_;rotate_left 1
  .intro wx hwx;obtain⟨k1,k2⟩:=hwx;go_simp<;>exact rfl
  go_frame
 refine bD Z (λK hK=>?_);go_simp;refine (uM _ n fa O _ (by exact I HX2)).mono ?_;rintro e w1 ⟨v,rfl,h2,h6⟩;have H2:=J h2;have H6:=J h6;obtain⟨vo,cap,rfl, -, -, -⟩:=h2.view;have hS1:=hS.below h6;refine hK _ _ (λ_=>hS1) ?_;clear hS hK K h2 h6 hS1;refine bD Z (λK hK=>?_);go_simp;refine (lZ z _ _ _ _ _ _ _ (IntAt.below (w:=w.drew) (I HZ) (I H6))).mono ?_;rintro e w2 ⟨rfl,g1,g2⟩;refine hK _ _ (λh=>by cases h) ?_;have F:=J (show Num w2 z x/\ν z w w2 from by have hsl:=(I H2).other g2 (IntAt.below (w:=w.drew) (I HZ) (I H6));have hnum:=jC g1 hsl (I HX3) (I HX4);rw[<-I E] at hnum;exact⟨hnum,(Ch (show Below w.heap.size w w1 from ((Drw.refl w).drew.below _).trans (I H6))).trans g2 (Aa Z)⟩);clear g1 g2 hK K;refine bD Z (λK hK=>?_);go_simp;refine hK _ _ (λh=>by cases h) ?_;clear hK K;refine fZ ?_;go_wp2_with fail;go_ret;exact⟨Z,(I F).1,(I F).2⟩
theorem UX(z bx)(x)(s0)(v0)(w)(hz:IntAt w z (.bool s0) v0)(hx:Num w bx x)(dx:Bd x):θ ζ 89 #[.pointer (δ ⟨z,0,γ⟩),.pointer (δ ⟨bx,0,γ⟩)] w λe w'=>e=.returned (.pointer (δ ⟨z,0,γ⟩))/\Num w' z (-x)/\ν z w w':=by
 obtain⟨xn,xv,n,fa,hx1,hx2,hx3,hx4,hx5,hx6⟩:=hx;have hn:n<=100:=by unfold Bd at dx;rw[hx5,jY (dP hx3).1] at dx;exact jJ hx3 hx4 dx
 have c1:=hx1.cell0;have c2:=hx1.cell1;have HX2:=J hx2;have HX3:=J hx3;have HX4:=J hx4;have E:=J (show cK (!xn) (M fa n)= -x by rw[hx5];cases xn<;>simp[cK]);have HZ:=J hz;obtain⟨ao,capa,rfl, -, -, -⟩:=hx2.view;clear hx1 hx2 hx3 hx4 hx5 hx6 hz dx;go_in;go_wp2_with fail;refine dY (S:=One bx (σ xn) (ι ao n capa))
  [(0,false),(1,false),(2,false),(3,false),(4,false),(5,false),(6,false),(7,false),(8,false),(9,false),(10,true),(11,true),(12,true)] [11,12] Yl Yl ?_
 have hS:One bx (σ xn) (ι ao n capa) w.drew:=⟨c1,c2⟩;clear c1 c2;iterate 10
  refine bG (v:=?_) Z (λ_ _ _ h=>h) (by rfl) hS ?_ ?_;rotate_left 1
  .intro wx hwx;obtain⟨k1,k2⟩:=hwx;go_simp<;>exact rfl
  go_frame
 refine bD Z (λK hK=>?_);go_simp;refine (uM _ n fa O _ (by exact I HX2)).mono ?_;rintro e w1 ⟨v,rfl,h2,h6⟩;have H2:=J h2;have H6:=J h6;obtain⟨vo,cap,rfl, -, -, -⟩:=h2.view;have hS1:=hS.below h6;refine hK _ _ (λ_=>hS1) ?_;clear hS hK K h2 h6 hS1;refine bD Z (λK hK=>?_);go_simp;refine (lZ z _ _ _ _ _ _ _ (IntAt.below (w:=w.drew) (I HZ) (I H6))).mono ?_;rintro e w2 ⟨rfl,g1,g2⟩;refine hK _ _ (λh=>by cases h) ?_;have F:=J (show Num w2 z (-x)/\ν z w w2 from by have hsl:=(I H2).other g2 (IntAt.below (w:=w.drew) (I HZ) (I H6));have hnum:=jC g1 hsl (I HX3) (I HX4);rw[I E] at hnum;exact⟨hnum,(Ch (show Below w.heap.size w w1 from ((Drw.refl w).drew.below _).trans (I H6))).trans g2 (Aa Z)⟩);clear g1 g2 hK K;refine bD Z (λK hK=>?_);go_simp;refine hK _ _ (λh=>by cases h) ?_;clear hK K;refine fZ ?_;go_wp2_with fail;go_ret;exact⟨Z,(I F).1,(I F).2⟩
theorem zP(g:β->Int)(i:β)(x:Int):∀{N:β},i<N->M (upd g i x) N=M g N+(x-g i)*4294967296^i
 |0,h=>ρ h O
 |N+1,h=>by
  rcases Ar i N with h1|h1
  .show M (upd g i x) N+upd g i x N*4294967296^N=M g N+g N*4294967296^N+_;rw[zP g i x h1,jF g x O];omega
  have:i=N:=O;subst this;rw[oQ];show _=M g i+g i*4294967296^i+_;rw[Ed];omega
theorem XZ(a0:0<=a)(a1:a<4294967296)(b0:0<=b)(b1:b<4294967296):0<=a*b/\a*b<=18446744065119617025:=by refine⟨Hg a0 b0,?_⟩;have:=rZ (show a<=4294967295 by omega) (show b<=4294967295 by omega) b0 O;omega
theorem aKA{l}{A V c}(hN:k+l<N)(h:M g N+c*4294967296^(k+l)=V+A*M fb l*4294967296^k)(ht:t=c+A*fb l+g (k+l)):M (upd g (k+l) (t%4294967296)) N+t/4294967296*4294967296^(k+(l+1))=V+A*M fb (l+1)*4294967296^k:=by
 rw[zP g _ _ hN,show k+(l+1)=k+l+1 by omega,Bw,Bc (4294967296^(k+l)) 4294967296, <-Av,Ed];have e1:t%4294967296*4294967296^(k+l)+t/4294967296*4294967296*4294967296^(k+l)=t*4294967296^(k+l):=by rw[<-Bi];congr 1;omega
 have e2:t*4294967296^(k+l)=c*4294967296^(k+l)+A*fb l*4294967296^(k+l)+g (k+l)*4294967296^(k+l):=by rw[ht,Bi,Bi]
 have e3:A*M fb (l+1)*4294967296^k=A*M fb l*4294967296^k+A*fb l*4294967296^(k+l):=by show A*(M fb l+fb l*4294967296^l)*4294967296^k=_;rw[Dm,Bi, <-Av A (fb l),Av (A*fb l), <-Ca,Ey l k]
 rw[e3];omega
theorem rng_upd(h:∀j,0<=g j/\g j<4294967296)(h0:0<=x)(h1:x<4294967296):∀j,0<=upd g i x j/\upd g i x j<4294967296:=by
 intro j;unfold upd;split
 .exact⟨h0,h1⟩
 exact h j
theorem aKx(ao bo)(n m capa capb)(fa fb)(hn0:0<n)(hm0:0<m)(hn:n<=100000)(hm:m<=100000)(w)(ha:Has w ao n fa)(hb:Has w bo m fb)(wa:Wd n fa)(wb:Wd m fb):θ ζ 148 #[.slice ao n capa,.slice bo m capb] w λe w'=>∃(v:τ) (l:β) (f:β->Int),e=.returned v/\Sl w' v l f/\Wd l f/\Nm l f/\M f l=M fa n*M fb m/\Below w.heap.size w w':=by
 have hmk:=λwx=>run_make_row' (P:=ζ) 139 168 (η .u32 0) 4 Ec Tryz.infoU32 Z ο ο (n+m) O O wx;rw[show ((n+m:β):Int)=(n:Int)+(m:Int) by omega] at hmk;obtain⟨ba,rfl,hba,hra⟩:=ha hn0;obtain⟨bb,rfl,hbb,hrb⟩:=hb hm0;have tn:((n:Int)==0)=false:=by simp;omega
 have tm:((m:Int)==0)=false:=by simp;omega
 have HA:=J hra;have HB:=J hrb;have WA:=J wa;have WB:=J wb;clear ha hb wa wb hra hrb;go_in;go_wp2_with fail;clear hmk;go_loopw [6,7,8] (λis _ _ wr=>∃(k:β) (g:β->Int),is=η ο k/\k<=n/\Own wr w.heap.size (n+m) g/\(∀j,0<=g j/\g j<4294967296)/\(∀j,k+m<=j->g j=0)/\M g (k+m)=M fa k*M fb m/\Below w.heap.size w wr)
  (λis _ _ _=>n-(ξ is).toNat)
 case atStart=>exact⟨0,_,rfl,Xz _,tX w (n+m),λ_=>⟨Bp _,by decide⟩,λ_ _=>rfl,by rw[gV (m:=0) O (λ_ _ _=>rfl)];show 0=0*M fb m;rw[Fa],fQ w _⟩
 case round=>
  obtain⟨k,g,rfl,hk,hO,hW,hz,hv,hBl⟩:=hrel;have HO:=J hO;have HW:=J hW;have HZ:=J hz;have HV:=J hv;have HBl:=J hBl;clear hO hW hz hv hBl;by_cases hkn:k<n
  .obtain⟨a0,a1⟩:=I WA k hkn;go_wp2_with fail;go_loopw [7,8] (λcs js wx=>∃(l:β) (c:Int) (g2:β->Int),js=η ο l/\cs=η .u64 c/\l<=m/\0<=c/\c<4294967296/\Own wx w.heap.size (n+m) g2/\(∀j,0<=g2 j/\g2 j<4294967296)/\(∀j,k+l<=j->g2 j=g j)/\M g2 (k+m)+c*4294967296^(k+l)=M g (k+m)+fa k*M fb l*4294967296^k/\Below w.heap.size w wx)
    (λ_ js _=>m-(ξ js).toNat)
   case atStart=>exact⟨0,0,g,rfl,rfl,Xz _,Bp _,by decide,I HO,I HW,λ_ _=>rfl,by show _+0*_=_+fa k*0*_;simp,I HBl⟩
   case round=>
    obtain⟨l,c,g2,rfl,rfl,hl,c0,c1,hO,hW,hz,hv,hBl⟩:=hrel;have HO2:=J hO;have HW2:=J hW;have HZ2:=J hz;have HV2:=J hv;have HBl2:=J hBl;clear hO hW hz hv hBl;by_cases hlm:l<m
    .obtain⟨b0,b1⟩:=I WB l hlm;obtain⟨g0,g1⟩:=I HW2 (k+l);obtain⟨p0,p1⟩:=XZ a0 a1 b0 b1;have HS:=J (aKA (N:=k+m) O (I HV2) (t:=c+fa k*fb l+g2 (k+l)) Z);obtain⟨p,ep⟩:∃p,fa k*fb l=p:=⟨_,rfl⟩;rw[ep] at p0 p1 HS;obtain⟨t,et⟩:∃t,c+(p+g2 (k+l))=t:=⟨_,rfl⟩;rw[show c+p+g2 (k+l)=t by omega] at HS;have t0:0<=t:=O;have t1:t<18446744073709551616:=O;have ca:=(I HBl2).cell (p:=⟨ba,k,γ⟩) hba;rw[I HA k hkn] at ca;have cb:=(I HBl2).cell (p:=⟨bb,l,γ⟩) hbb;rw[I HB l hlm] at cb;have co:=(I HO2).cell (show k+l<n+m by omega);have fo:=(I HO2).free (k+l);have wi:IntKind.i64.wrap ((k:Int)+(l:Int))=(k:Int)+(l:Int):=by rw[Db];omega
     have wp:IntKind.u64.wrap p=p:=by rw[Eb];omega
     have ws:IntKind.u64.wrap (p+g2 (k+l))=p+g2 (k+l):=by rw[Eb];omega
     have wt:IntKind.u64.wrap t=t:=by rw[Eb];omega
     go_wp2_with fail;go_region;go_wp2_with fail;go_roundw;case rel=>exact⟨l+1,_,_,by go_num,rfl,O,O,O,(I HO2).set (k+l) (t%4294967296),rng_upd (I HW2) O O,λj hj=>by rw[jF _ _ O];exact I HZ2 j O,I HS,((I HBl2).setCell (Xr _) _).drew⟩
     case measure=>simp[ξ];omega
    .have hlm2:l=m:=O;subst hlm2;have HV3:=J (show M (upd g2 (k+l) c) (k+1+l)=M fa (k+1)*M fb l from by rw[show k+1+l=k+l+1 by omega,oQ,I HV2,I HV];show _=(M fa k+fa k*4294967296^k)*M fb l;rw[Bi,Ib (fa k)]);have co:=(I HO2).cell (show k+l<n+l by omega);have fo:=(I HO2).free (k+l);go_wp2_with fail;go_roundw;case rel=>exact⟨k+1,_,by go_num,O,(I HO2).set (k+l) c,rng_upd (I HW2) c0 c1,λj hj=>by rw[jF _ _ O,I HZ2 j O];exact I HZ j O,I HV3,(I HBl2).setCell (Xr _) _⟩
     case measure=>simp[ξ];omega
  .have hkn2:k=n:=O;subst hkn2;have HWD:=J (show Wd (k+m) g from λi _=>I HW i);have HOL:=J (I HO).lt;go_wp2_with fail;refine (mP w.heap.size (k+m) (k+m) g (Xr _) O _ (I HO).row).mono ?_;rintro e w1 ⟨l,rfl,hl,hz,hnm,rfl⟩;have F:=J (show Sl w1 (ι (δ ⟨w.heap.size,0,γ⟩) l (k+m)) l g/\Wd l g/\Nm l g/\M g l=M fa k*M fb m/\Below w.heap.size w w1 from
    ⟨Ab ⟨_,_,rfl,hl,O,I HOL,(I HO).row.less hl⟩,(I HWD).less hl,hnm,by rw[<-gV hl hz];exact I HV,I HBl⟩)
   clear hz hnm;go_wp2_with fail;go_ret;exact⟨_,l,_,Z,I F⟩
theorem WT(va vb)(n m)(fa fb)(hn:n<=100000)(hm:m<=100000)(w)(ha:Sl w va n fa)(hb:Sl w vb m fb)(wa:Wd n fa)(wb:Wd m fb):θ ζ 148 #[va,vb] w λe w'=>∃(v:τ) (l:β) (f:β->Int),e=.returned v/\Sl w' v l f/\Wd l f/\Nm l f/\M f l=M fa n*M fb m/\Below w.heap.size w w':=by
 obtain⟨ao,capa,rfl, -, -,ha⟩:=ha.view;obtain⟨bo,capb,rfl, -, -,hb⟩:=hb.view;rcases Bj n with h0|h0
 .subst h0;clear ha hb wa wb;go_in;go_wp2_with fail;go_ret;exact⟨_,0,fa,Z,Aa ⟨Z,Z⟩,λi hi=>ρ hi O,Aa Z,by show 0=0*M fb m;rw[Fa],Af _ _⟩
 rcases Bj m with h1|h1
 .subst h1;have tn:((n:Int)==0)=false:=by simp;omega
  clear ha hb wa wb;go_in;go_wp2_with fail;go_ret;exact⟨_,0,fa,Z,Aa ⟨Z,Z⟩,λi hi=>ρ hi O,Aa Z,by show 0=M fa n*0;rw[Int.mul_zero],Af _ _⟩
 exact aKx ao bo n m capa capb fa fb h0 h1 hn hm w ha hb wa wb
theorem zK(z bx by_)(x y)(s0)(v0)(w)(hz:IntAt w z (.bool s0) v0)(hx:Num w bx x)(hy:Num w by_ y)(dx:Bd x)(dy:Bd y):θ ζ 111 #[.pointer (δ ⟨z,0,γ⟩),.pointer (δ ⟨bx,0,γ⟩),.pointer (δ ⟨by_,0,γ⟩)] w λe w'=>e=.returned (.pointer (δ ⟨z,0,γ⟩))/\Num w' z (x*y)/\ν z w w':=by
 obtain⟨xn,xv,n,fa,hx1,hx2,hx3,hx4,hx5,hx6⟩:=hx;obtain⟨yn,yv,m,fb,hy1,hy2,hy3,hy4,hy5,hy6⟩:=hy;have hn:n<=100:=by unfold Bd at dx;rw[hx5,jY (dP hx3).1] at dx;exact jJ hx3 hx4 dx
 have hm:m<=100:=by unfold Bd at dy;rw[hy5,jY (dP hy3).1] at dy;exact jJ hy3 hy4 dy
 have c1:=hx1.cell0;have c2:=hx1.cell1;have c3:=hy1.cell0;have c4:=hy1.cell1;have HX2:=J hx2;have HX3:=J hx3;have HX4:=J hx4;have HY2:=J hy2;have HY3:=J hy3;have HY4:=J hy4;have E:=J (show cK (!xn==yn) (M fa n*M fb m)=x*y by rw[hx5,hy5];cases xn<;>cases yn<;>simp[cK,Int.neg_mul,Int.mul_neg]);have HZ:=J hz;obtain⟨ao,capa,rfl, -, -, -⟩:=hx2.view;obtain⟨bo,capb,rfl, -, -, -⟩:=hy2.view;clear hx1 hx2 hx3 hx4 hx5 hx6 hy1 hy2 hy3 hy4 hy5 hy6 hz dx dy;go_in;go_wp2_with fail;refine dY (S:=Two bx by_ (σ xn) (ι ao n capa) (σ yn) (ι bo m capb))
  [(0,false),(1,false),(2,false),(3,false),(4,false),(5,false),(6,false),(7,false),(8,false),(9,false),(10,false),(11,false),(12,false),(13,false),(14,false),(15,false),(16,false),(17,false),(18,true),(19,true),(20,true)] [19,20] Yl Yl ?_
 have hS:Two bx by_ (σ xn) (ι ao n capa) (σ yn) (ι bo m capb) w.drew:=⟨c1,c2,c3,c4⟩;clear c1 c2 c3 c4;iterate 18
  refine bG (v:=?_) Z (λ_ _ _ h=>h) (by rfl) hS ?_ ?_;rotate_left 1
  .intro wx hwx;obtain⟨k1,k2,k3,k4⟩:=hwx;go_simp<;>exact rfl
  go_frame
 refine bD Z (λK hK=>?_);go_simp;refine (WT _ _ n m fa fb O O _ (by exact I HX2) (by exact I HY2) (I HX3) (I HY3)).mono ?_;rintro e w1 ⟨v,l,f,rfl,h2,h3,h4,h5,h6⟩;have H2:=J h2;have H3:=J h3;have H4:=J h4;have H5:=J h5;have H6:=J h6;obtain⟨vo,cap,rfl, -, -, -⟩:=h2.view;have hS1:=hS.below h6;refine hK _ _ (λ_=>hS1) ?_;clear hS hK K h2 h3 h4 h5 h6 hS1;refine bD Z (λK hK=>?_);go_simp;refine (lZ z _ _ _ _ _ _ _ (IntAt.below (w:=w.drew) (I HZ) (I H6))).mono ?_;rintro e w2 ⟨rfl,g1,g2⟩;refine hK _ _ (λh=>by cases h) ?_;have F:=J (show Num w2 z (x*y)/\ν z w w2 from by have hsl:=(I H2).other g2 (IntAt.below (w:=w.drew) (I HZ) (I H6));have hnum:=jC g1 hsl (I H3) (I H4);rw[I H5,I E] at hnum;exact⟨hnum,(Ch (show Below w.heap.size w w1 from ((Drw.refl w).drew.below _).trans (I H6))).trans g2 (Aa Z)⟩);clear g1 g2 hK K;refine bD Z (λK hK=>?_);go_simp;refine hK _ _ (λh=>by cases h) ?_;clear hK K;refine fZ ?_;go_wp2_with fail;go_ret;exact⟨Z,(I F).1,(I F).2⟩
def Gs(u v1 t q r:Int):Prop:=t<=q/\q<=4294967297/\0<=r/\q*v1+r=u
def R5(u u1 v1 v0 t q:Int):Prop:=t<=q/\0<=q/\q<=4294967295/\q*(v1*4294967296+v0)<=u*4294967296+u1
variable{q v0 v1:Int}
theorem UO:q*(v1*4294967296+v0)=q*v1*4294967296+q*v0:=by rw[Dm, <-Av]
variable{u u1:Int}
theorem aKi(hv1:2147483648<=v1)(h0:0<=v0)(hu0:0<=u)(hu:u<=v1*4294967296+4294967295)(hu1:u1<4294967296)(HT:∀q,u*4294967296+u1<q*(v1*4294967296+v0)->t<q):Gs u v1 t (u/v1) (u%v1)/\u%v1<v1:=by
 have e:v1*(u/v1)+u%v1=u:=Fz u v1;have m0:0<=u%v1:=Fb _ O;have m1:u%v1<v1:=Fe _ O;have q0:0<=u/v1:=Ei hu0 O;have hq:u/v1<=4294967297:=by apply Int.le_of_lt_add_one;rw[Ii O];omega
 have ec:u/v1*v1=v1*(u/v1):=Bc _ _;refine⟨⟨?_,hq,m0,O⟩,m1⟩;have h1:=HT (u/v1+1) (by rw[UO,Bi,Fy];have:0<=(u/v1+1)*v0:=Hg O h0;omega);omega
variable{r:Int}
theorem aAL(h:Gs u v1 t q r)(ht:t<=4294967295)(hv1:2147483648<=v1)(HT:∀q,u*4294967296+u1<q*(v1*4294967296+v0)->t<q)(hc:4294967296<=q\/4294967296*r+u1<q*v0):Gs u v1 t (q-1) (r+v1):=by
 obtain⟨h1,h2,h3,h4⟩:=h;have e:(q-1)*v1=q*v1-v1:=by rw[Ed,Fy]
 refine⟨?_,O,O,O⟩;rcases hc with hc|hc
 .omega
 have:=HT q (by rw[UO];omega);omega
theorem aHl(h:Gs u v1 t q r)(ht0:0<=t)(hq:q<4294967296)(hc:q*v0<=4294967296*r+u1):R5 u u1 v1 v0 t q:=by obtain⟨h1,h2,h3,h4⟩:=h;refine⟨h1,O,O,?_⟩;rw[UO];omega
theorem aAK(h:Gs u v1 t (q-1) (r+v1))(h':Gs u v1 t q r)(ht0:0<=t)(hu:u<=v1*4294967296+4294967295)(hu1:0<=u1)(h0:0<=v0)(h1:v0<4294967296)(hr:4294967296<=r+v1):R5 u u1 v1 v0 t (q-1):=by
 have hq:q<=4294967296:=by
  obtain⟨a1,a2,a3,a4⟩:=h';rcases Cm q 4294967297 with hq|hq
  .omega
  have:q=4294967297:=O;subst this;omega
 apply aHl h ht0 O;have:=rZ (show q-1<=4294967295 by omega) (show v0<=4294967295 by omega) h0 O;omega
theorem aOo(h:Gs u v1 t q r)(ht0:0<=t)(ht:t<=4294967295)(hv1:2147483648<=v1)(h0:0<=v0)(h1:v0<4294967296)(hu:u<=v1*4294967296+4294967295)(hu1:0<=u1)(HT:∀q,u*4294967296+u1<q*(v1*4294967296+v0)->t<q):(4294967296<=q/\r+v1<4294967296/\Gs u v1 t (q-1) (r+v1))\/(q<4294967296/\1<=q/\4294967296*r+u1<q*v0/\r+v1<4294967296/\Gs u v1 t (q-1) (r+v1))\/(4294967296<=q/\4294967296<=r+v1/\R5 u u1 v1 v0 t (q-1))\/(q<4294967296/\1<=q/\4294967296*r+u1<q*v0/\4294967296<=r+v1/\R5 u u1 v1 v0 t (q-1))\/(q<4294967296/\q*v0<=4294967296*r+u1/\R5 u u1 v1 v0 t q):=by
 by_cases hq:4294967296<=q
 .have hr:=aAL (u1:=u1) (v0:=v0) h ht hv1 HT (Aa hq);by_cases hb:4294967296<=r+v1
  .exact Ab (Ab (Aa ⟨hq,hb,aAK hr h ht0 hu hu1 h0 h1 hb⟩))
  exact Aa ⟨hq,O,hr⟩
 by_cases hc:4294967296*r+u1<q*v0
 .have hr:=aAL (u1:=u1) (v0:=v0) h ht hv1 HT (Ab hc);have q1:1<=q:=by have:=hr.1;omega
  by_cases hb:4294967296<=r+v1
  .exact Ab (Ab (Ab (Aa ⟨O,q1,hc,hb,aAK hr h ht0 hu hu1 h0 h1 hb⟩)))
  exact Ab (Aa ⟨O,q1,hc,O,hr⟩)
 exact Ab (Ab (Ab (Ab ⟨O,O,aHl h ht0 O O⟩)))
theorem aKj{U V P}(hP:0<P)(hv1:2147483648<=v1)(hV0:(v1*4294967296+v0)*P<=V)(hV1:V<(v1*4294967296+v0)*P+P)(h0:0<=v0)(hU0:(u*4294967296+u1)*P<=U)(hq0:0<=q)(hq1:q<=4294967295)(hc:q*(v1*4294967296+v0)<=u*4294967296+u1):q*V<U+V:=by
 have a1:q*V<=q*((v1*4294967296+v0)*P+P):=Dl O hq0;have a2:q*((v1*4294967296+v0)*P+P)=q*(v1*4294967296+v0)*P+q*P:=by rw[Dm, <-Av]
 have a3:q*(v1*4294967296+v0)*P<=(u*4294967296+u1)*P:=Ci hc (Ba hP);have a4:q*P<=4294967295*P:=Ci hq1 (Ba hP);have a5:9223372036854775808*P<=(v1*4294967296+v0)*P:=Ci O (Ba hP);omega
theorem aOn{U V P}(hP:0<P)(hVp:0<V)(hV0:(v1*4294967296+v0)*P<=V)(hU1:U<(u*4294967296+u1)*P+P)(hu:0<=u*4294967296+u1)(hv:0<=v1*4294967296+v0)(hc:u*4294967296+u1<q*(v1*4294967296+v0)):U/V<q:=by
 rw[Ii hVp];have q0:0<=q:=by
  rcases Cm q 0 with h|h
  .have:=Int.mul_nonpos_of_nonpos_of_nonneg (Ba h) hv;omega
  exact h
 have a1:q*((v1*4294967296+v0)*P)<=q*V:=Dl hV0 q0;rw[<-Av] at a1;have a2:(u*4294967296+u1+1)*P<=q*(v1*4294967296+v0)*P:=Ci O (Ba hP);rw[Bi,Fy] at a2;omega
theorem aOR{U V:β->Int}{g c d c1 d'}(h:M f k=M U k-g*M V k+(c+d)*4294967296^k)(hc1:c1=c+g*V k)(ht:t=U k-c1%4294967296-d)(hx:t=x-d'*4294967296):M (upd f k x) (k+1)=M U (k+1)-g*M V (k+1)+(c1/4294967296+d')*4294967296^(k+1):=by
 rw[oQ,h];show _=M U k+U k*4294967296^k-g*(M V k+V k*4294967296^k)+_;have e:(c+d+x)*4294967296^k=(U k-g*V k+(c1/4294967296+d')*4294967296)*4294967296^k:=by congr 1;omega
 rw[Bw,Bc (4294967296^k) 4294967296, <-Av (c1/4294967296+d'),Dm g, <-Av g];rw[Bi (c+d),Bi (U k-g*V k),Ed] at e;omega
theorem aNt{F V:β->Int}{c}(h:M f k+c*4294967296^k=M F k+M V k)(ht:t=c+(F k+V k)):M (upd f k (t%4294967296)) (k+1)+t/4294967296*4294967296^(k+1)=M F (k+1)+M V (k+1):=
 zZ (fa:=F) (fb:=V) h O
theorem aOr(hw:Wd n f)(hk:k<n):M f n/4294967296^k=M f n/4294967296^(k+1)*4294967296+f k:=by
 obtain⟨d,rfl⟩:∃d,n=k+1+d:=⟨n-(k+1),O⟩;have e1:=qR f k (1+d);have e2:=qR f (k+1) d;rw[<-Ew] at e1;have b1:=dP (hw.less (show k<=k+1+d by omega));have b2:=dP (hw.less (show k+1<=k+1+d by omega));have e3:M f (k+1+d)/4294967296^(k+1)=M (λi=>f (k+1+i)) d:=by rw[e2,Hf,Int.mul_add_ediv_left' _ _ (φ (k+1)) b2.1 b2.2]
 have e4:M f (k+1+d)/4294967296^k=M (λi=>f (k+i)) (1+d):=by rw[e1,Hf,Int.mul_add_ediv_left' _ _ (φ k) b1.1 b1.2]
 rw[e3,e4,qR];have e5:M (λi=>f (k+i)) 1=f k:=by show 0+f (k+0)*4294967296^0=f k;simp
 have e6:(λi=>(λi=>f (k+i)) (1+i))=λi=>f (k+1+i):=by funext j;show f (k+(1+j))=_;rw[Ew]
 rw[e5,e6];show f k+4294967296^1*_=_;simp only[Int.reducePow];omega
theorem aHo(hw:Wd n f):M f n/4294967296^n=0:=Ih (dP hw).1 (dP hw).2
theorem aFT{d}(hw:Wd n f)(hk:k<n)(hd:0<d)(hg:g k=0)(hv:M g n=M f n/4294967296^(k+1)/d*4294967296^(k+1))(hr:r=M f n/4294967296^(k+1)%d):0<=(r*4294967296+f k)/d/\(r*4294967296+f k)/d<4294967296/\M (upd g k ((r*4294967296+f k)/d)) n=M f n/4294967296^k/d*4294967296^k/\(r*4294967296+f k)%d=M f n/4294967296^k%d:=by
 have h:=aOr hw hk;obtain⟨H,eH⟩:∃H,M f n/4294967296^(k+1)=H:=⟨_,rfl⟩;obtain⟨G,eG⟩:∃G,M f n/4294967296^k=G:=⟨_,rfl⟩;rw[eH] at hv hr h;rw[eG] at h ⊢;obtain⟨w0,w1⟩:=hw k hk;have r0:0<=r:=by rw[hr];exact Fb _ O
 have r1:r<d:=by rw[hr];exact Fe _ hd
 have eD:d*(H/d)+r=H:=by rw[hr];exact Fz H d
 have eT:G=d*(H/d*4294967296)+(r*4294967296+f k):=by
  rw[h, <-eD, <-Av];have:(d*(H/d)+r)/d=H/d:=by rw[Int.mul_add_ediv_left' _ _ hd r0 r1]
  rw[this,Bi];omega
 have q1:G/d=H/d*4294967296+(r*4294967296+f k)/d:=by rw[eT,Hf,Int.add_mul_ediv_left _ _ O,Hf]
 have q2:G%d=(r*4294967296+f k)%d:=by rw[eT,Hf,Mi]
 refine⟨Ei O O,?_,?_,q2.symm⟩
 .rw[Ii hd];have:=Ci (show r+1<=d by omega) (show (0:Int)<=4294967296 by decide);rw[Bc 4294967296 d];omega
 rw[zP _ _ _ hk,hv,hg,q1,Bi,Int.sub_zero,Bw,Bc (4294967296^k) 4294967296, <-Av]
theorem XM(va)(n)f(d)(hd:0<d)(hd1:d<4294967296)(hn:n<=100000)(w)(ha:Sl w va n f)(wa:Wd n f):θ ζ 114 #[va,.int .u32 d] w λe w'=>∃(v:τ) (l:β) (g:β->Int),e=.returned (.tuple #[v,.int .u32 (M f n%d)])/\Sl w' v l g/\Wd l g/\Nm l g/\M g l=M f n/d/\Below w.heap.size w w':=by
 have hmk:=λwx=>run_make_row' (P:=ζ) 139 168 (η .u32 0) 4 Ec Tryz.infoU32 Z ο ο n O O wx;obtain⟨ao,cap,rfl, -, -,ha⟩:=ha.view;have HA:=J ha;have WA:=J wa;have td:(d==0)=false:=by simp;omega
 have dn:d≠0:=O;clear ha wa;go_in;go_wp2_with fail;clear hmk;go_loopw [7,8] (λrs is wr=>∃(k:β) (r:Int) (g:β->Int),rs=η .u64 r/\is=η ο ((k:Int)-1)/\k<=n/\0<=r/\r<d/\Own wr w.heap.size n g/\(∀j,0<=g j/\g j<4294967296)/\(∀j,j<k->g j=0)/\M g n=M f n/4294967296^k/d*4294967296^k/\r=M f n/4294967296^k%d/\Below w.heap.size w wr)
  (λ_ is _=>(ξ is+1).toNat)
 case atStart=>exact⟨n,0,_,rfl,rfl,Xr _,Bp _,hd,tX w n,λ_=>⟨Bp _,by decide⟩,λ_ _=>rfl,by rw[aHo (I WA),Int.zero_ediv,Fa];exact gV (m:=0) (Xz _) (λ_ _ _=>rfl),by rw[aHo (I WA),Int.zero_emod],fQ w _⟩
 case round=>
  obtain⟨k,r,g,rfl,rfl,hk,r0,r1,hO,hW,hz,hv,hr,hB⟩:=hrel;have HO:=J hO;have HW:=J hW;have HZ:=J hz;have HV:=J hv;have HR:=J hr;have HB:=J hB;clear hO hW hz hv hr hB;rcases Bj k with h|h
  .subst h;have E1:=J (show M g n=M f n/d by have:=I HV;simpa using this);have E2:=J (show r=M f n%d by have:=I HR;simpa using this);have HWD:=J (show Wd n g from λi _=>I HW i);have HOL:=J (I HO).lt;go_wp2_with fail;refine (mP w.heap.size n n g (Xr _) O _ (I HO).row).mono ?_;rintro e w1 ⟨l,rfl,hl,hz,hnm,rfl⟩;have F:=J (show Sl w1 (ι (δ ⟨w.heap.size,0,γ⟩) l n) l g/\Wd l g/\Nm l g/\M g l=M f n/d/\Below w.heap.size w w1 from
    ⟨Ab ⟨_,_,rfl,hl,O,I HOL,(I HO).row.less hl⟩,(I HWD).less hl,hnm,by rw[<-gV hl hz];exact I E1,I HB⟩)
   clear hz hnm;have re:r%4294967296=r:=O;go_wp2_with fail;go_ret2;exact⟨_,l,g,by rw[<-I E2];rfl,I F⟩
  .obtain⟨i,rfl⟩:∃i,k=i+1:=⟨k-1,O⟩;rw[show (((i+1:β):Int)-1)=(i:Int) by omega];obtain⟨ba,rfl,hba,hra⟩:=Has.below' (I HA) (I HB) O;have ca:=hra i O;obtain⟨a0,a1⟩:=I WA i O;obtain⟨q0,q1,q2,q3⟩:=aFT (I WA) (show i<n by omega) hd (I HZ i O) (I HV) (I HR);have co:=(I HO).cell (show i<n by omega);have fo:=(I HO).free i;have eo:=yN r (f i) r0 O a0 a1;have b1:r*4294967296+f i<18446744073709551616:=O;have b0:0<=r*4294967296+f i:=O;have m0:0<=(r*4294967296+f i)%d:=Fb _ dn;have m1:(r*4294967296+f i)%d<d:=Fe _ hd;have Q2:=J q2;have Q3:=J q3;clear hra q2 q3 h;go_wp2_with fail;refine⟨⟨i,_,_,Z,Z,O,m0,m1,(I HO).set i _,rng_upd (I HW) q0 q1,λj hj=>by rw[jF _ _ O];exact I HZ j O,I Q2,I Q3,(I HB).setCell (Xr _) _⟩,?_⟩;simp[ξ]
end
section
open Go.RowKit Go.Lib
variable{l:υ UInt8}
theorem UF(h:l.all qA=true):Ω l<10^l.length:=by rw[MW];exact BD (CK h) _
theorem ZX(h:l.all qA=true)(k):(l.take k).all qA=true:=by rw[Cj] at h ⊢;exact λc hc=>h c (List.mem_of_mem_take hc)
theorem ZC(z)(l)(hl:l.length<=60)(hd:l.all qA=true)(hne:l≠[])(s0)(v0)(w)(hz:IntAt w z (.bool s0) v0):θ ζ 88 #[.pointer (δ ⟨z,0,γ⟩),.string ⟨l.toArray⟩,.int .i64 10] w λe w'=>e=.returned (.tuple #[.pointer (δ ⟨z,0,γ⟩),.bool true])/\Num w' z (Ω l)/\ν z w w':=by
 have hS:=sG l;have HAT:=J (JO l);have HD:=J hd;have HZ:=J hz;obtain⟨n,en⟩:∃n,l.length=n:=⟨_,rfl⟩;have hn0:0<n:=by rw[<-en];exact List.length_pos_iff.2 hne
 rw[en] at hS hl;have hix0:∃c:β,48<=c/\c<=57/\∀wx:ψ,(Instr.index 9 (.string ⟨l.toArray⟩) (η ο 0)).run ζ wx=.ok (η .u8 (c:Int)) wx:=by have h0:0<l.length:=O;have hdd:=(xN l[0]).1 (Cj.1 hd _ (Dj h0));exact⟨_,hdd.1,hdd.2,λwx=>JO l 0 h0 wx⟩
 obtain⟨c0,k1,k2,hix0⟩:=hix0;obtain⟨S,eS⟩:∃S:ByteArray,(⟨l.toArray⟩:ByteArray)=S:=⟨_,rfl⟩;rw[eS] at hS hix0 ⊢;have EN:=J en;have ES:=J eS;have b1:((c0:Int)==45)=false:=beq_eq_false_iff_ne.2 O;have b2:((c0:Int)==43)=false:=beq_eq_false_iff_ne.2 O;have b3:((n:Int)==0)=false:=beq_eq_false_iff_ne.2 O;have b4:decide ((0:Int)<(n:Int))=true:=Xt O;clear en eS hd hz hne;go_in;go_wp2_with fail;clear hix0 b1 b2 b3 b4 k1 k2;go_loopg [9,10,11,12] n (λgk rs is _ _ wx=>∃(k m:β) (g:β->Int),gk=n-k/\k<=n/\is=η ο (k:Int)/\Sl wx rs m g/\Wd m g/\Nm m g/\M g m=((Ω (l.take k):β):Int)/\Below w.heap.size w wx);case atStart=>exact⟨0,0,λ_=>0,rfl,Xz _,rfl,Aa ⟨rfl,rfl⟩,λi hi=>ρ hi O,Aa rfl,rfl,Af _ _⟩
 case round=>
  obtain⟨k,m,g,rfl,hk,rfl,hsl,hwd,hnm,hval,hbl⟩:=hrel;have hm:m<=10:=by
   refine jJ hwd hnm ?_;rw[hval];have h1:=UF (ZX (I HD) k);have h2:10^(l.take k).length<=10^60:=Ej Yc (by rw[Ea];have:=I EN;omega);have h3:((10^60:β):Int)<4294967296^10:=by decide
   omega
  have HSL:=J hsl;have HWD:=J hwd;have HNM:=J hnm;have HVAL:=J hval;have HBL:=J hbl;obtain⟨ro,capr,rfl, -, -, -⟩:=hsl.view;clear hsl hwd hnm hval hbl;by_cases hkn:k<n
  .have hkl:k<l.length:=by rw[I EN];exact hkn
   have hix:=λwx=>I HAT k hkl wx;rw[I ES] at hix;have hdd:=(xN l[k]).1 (Cj.1 (I HD) _ (Dj hkl));obtain⟨c,ec⟩:∃c:β,(l[k]).toNat=c:=⟨_,rfl⟩;rw[ec] at hix hdd;obtain⟨hd1,hd2⟩:=hdd;obtain⟨d,rfl⟩:∃d,c=d+48:=⟨c-48,O⟩;have HNX:=J (show Ω (l.take (k+1))=Ω (l.take k)*10+d from by rw[JU hkl,GQ,ec];omega);have hki:(k:Int)<(n:Int):=O;have q1:decide (48<=(d:Int)+48)=true:=Xt O;have q2:decide ((d:Int)+48<=57)=true:=Xt O;clear ec;go_wp2_with fail;refine (wM 10 Yc Yc _).mono ?_;rintro e w1 ⟨v1,m1,f1,rfl,s1,d1,n1,e1,b1⟩;have S1:=J s1;have D1:=J d1;have E1:=J e1;have B1:=J b1;have hm1:m1<=1:=jJ d1 n1 (by rw[e1];decide);clear s1 d1 n1 e1 b1;go_wp2_with fail;refine (WT _ _ m m1 g f1 O O _ ((I HSL).below (I B1)) (I S1) (I HWD) (I D1)).mono ?_;rintro e w2 ⟨v2,m2,f2,rfl,s2,d2,n2,e2,b2⟩;rw[I HVAL,I E1] at e2;have S2:=J s2;have D2:=J d2;have E2:=J e2;have B2:=J b2;have hm2:m2<=20:=by
    refine jJ d2 n2 ?_;rw[e2];have h1:=UF (ZX (I HD) k);have h2:10^(l.take k).length<=10^60:=Ej Yc (by rw[Ea];have:=I EN;omega);have h3:((10^60:β):Int)*10<4294967296^20:=by decide
    omega
   clear s2 d2 n2 e2 b2;go_wp2_with fail;refine (wM (d:Int) O O _).mono ?_;rintro e w3 ⟨v3,m3,f3,rfl,s3,d3,n3,e3,b3⟩;have S3:=J s3;have D3:=J d3;have E3:=J e3;have B3:=J b3;have hm3:m3<=1:=jJ d3 n3 (by rw[e3];show (d:Int)<4294967296;omega);clear s3 d3 n3 e3 b3;go_wp2_with fail;refine (WC _ _ m2 m3 f2 f3 O O _ ((I S2).below (I B3)) (I S3) (I D2) (I D3)).mono ?_;rintro e w4 ⟨v4,m4,f4,rfl,s4,d4,n4,e4, -,b4⟩;rw[I E2,I E3] at e4;have R4:=J (show Sl w4 v4 m4 f4/\Wd m4 f4/\Nm m4 f4/\M f4 m4=((Ω (l.take (k+1)):β):Int)/\Below w.heap.size w w4 from by
    refine⟨s4,d4,n4,?_,?_⟩
    .rw[e4,I HNX];omega
    have t1:=bZ (I HBL) (I B1) (I HBL).size;have t2:=bZ t1 (I B2) t1.size;have t3:=bZ t2 (I B3) t2.size;exact bZ t3 b4 t3.size)
   clear s4 d4 n4 e4 b4;go_wp2_with fail;go_roundg (n-(k+1));case measure=>omega
   case rel=>exact⟨k+1,m4,f4,rfl,O,by go_num,I R4⟩
  .obtain rfl:k=n:=O;have hki:¬(k:Int)<(k:Int):=O;go_wp2_with fail;refine (lZ z _ _ _ _ _ _ _ (IntAt.below (I HZ) (I HBL))).mono ?_;rintro e w2 ⟨rfl,g1,g2⟩;have F:=J (show Num w2 z (Ω l:Int)/\ν z w w2 from by have hs:=(I HSL).other g2 (IntAt.below (I HZ) (I HBL));have hnum:=jC g1 hs (I HWD) (I HNM);rw[I HVAL,Hy (by rw[I EN];exact Xr _)] at hnum;exact⟨hnum,(Ch (I HBL)).trans g2 (Aa Z)⟩);clear g1 g2;go_wp2_with fail;go_ret2;exact⟨Z,I F⟩
theorem aEg:∀l:υ UInt8,(∀c∈l,c≠46)->Lib.index l [46]= -1
 |[],_=>rfl
 |c::l,h=>by
  unfold Lib.index;have h1:Φ [46] (c::l)=false:=by have:=h c (by simp);simp[Φ];exact λe=>this e.symm
  rw[h1,aEg l (λd hd=>h d (by simp[hd]))];rfl
theorem aHr(r:υ UInt8):∀l:υ UInt8,(∀c∈l,c≠46)->Lib.index (l++46::r) [46]=(l.length:Int)
 |[],_=>by
  show Lib.index (46::r) [46]=0;unfold Lib.index;have h1:Φ [46] (46::r)=true:=by simp[Φ]
  rw[h1];rfl
 |c::l,h=>by
  show Lib.index (c::(l++46::r)) [46]=_;unfold Lib.index;have h1:Φ [46] (c::(l++46::r))=false:=by have:=h c (by simp);simp[Φ];exact λe=>this e.symm
  rw[h1,aHr r l (λd hd=>h d (by simp[hd]))];have h2:((l.length:Int)== -1)=false:=beq_eq_false_iff_ne.2 O;simp only[h2,Bool.false_eq_true,if_false];simp
theorem WP:∀l:υ UInt8,(∀c∈l,c≠46)\/∃a r,l=a++46::r/\∀c∈a,c≠46
 |[]=>Aa (λc hc=>by cases hc)
 |c::l=>by
  by_cases h:c=46
  .subst h;exact Ab ⟨[],l,Z,λd hd=>by cases hd⟩
  rcases WP l with h1|⟨a,r,e,h1⟩
  .left;intro d hd;rcases Bv.1 hd with rfl|h2
   .exact h
   exact h1 d h2
  right;refine⟨c::a,r,by rw[e];rfl,?_⟩;intro d hd;rcases Bv.1 hd with rfl|h2
  .exact h
  exact h1 d h2
variable{t:υ UInt8}
theorem aJN{wh fr}{pt}(h:Lib.cut t [46]=(wh,fr,pt)):(pt=false/\wh=t/\fr=[]/\∀c∈t,c≠46)\/(pt=true/\t=wh++46::fr/\∀c∈wh,c≠46):=by
 unfold Lib.cut at h;rcases WP t with h1|⟨a,r,e,h1⟩
 .rw[aEg t h1] at h;cases h;exact Aa ⟨Z,Z,Z,h1⟩
 subst e;rw[aHr r a h1,π O,Hm] at h;cases h;refine Ab ⟨Z,?_,?_⟩
 .simp[List.drop_append]
 simp;exact h1
def sQ(t:υ UInt8)(i:β):υ UInt8:=(t.take i).filter (· !=46)
theorem QU{i}hi:sQ t (i+1)=if t[i]=46 then sQ t i else sQ t i++[t[i]]:=by
 unfold sQ;rw[JU hi,List.filter_append];by_cases h:t[i]=46
 .rw[π h,h];simp
 rw[μ h];simp[h]
theorem NS(h:∀c∈t,c≠46):t.filter (· !=46)=t:=by rw[List.filter_eq_self];intro c hc;simp[h c hc]
end
section
open Go.RowKit
theorem XA(va)(n)f(hn:n<=2)(w)(ha:Sl w va n f)(wa:Wd n f):θ ζ 288 #[va] w λe w'=>e=.returned (.int .u64 (M f n))/\w'=w:=by
 rcases (show n=0\/n=1\/n=2 by omega) with rfl|rfl|rfl
 .obtain⟨ao,cap,rfl, -, -, -⟩:=ha.view;clear ha wa;go_in;go_wp2;go_ret;exact⟨Z,Z⟩
 .have ev:=J (show M f 1=f 0 by show 0+f 0*4294967296^0=f 0;simp);obtain⟨t0,t1⟩:=wa 0 O;rcases ha with ⟨-,h⟩|⟨bv,cap,rfl, -, -, -,hr⟩
  .cases h
  have k0:=hr 0 O;clear wa hr;go_in;go_wp2;go_ret;exact⟨by rw[I ev];rfl,rfl⟩
 have ev:=J (show M f 2=f 1*4294967296+f 0 by show 0+f 0*4294967296^0+f 1*4294967296^1=_;simp;omega);obtain⟨t0,t1⟩:=wa 0 O;obtain⟨t2,t3⟩:=wa 1 O;rcases ha with ⟨-,h⟩|⟨bv,cap,rfl, -, -, -,hr⟩
 .cases h
 have k0:=hr 0 O;have k1:=hr 1 O;have eo:=DF (f 1) (f 0) t2 t3 t0 t1;obtain⟨u,eu⟩:∃u,f 1*4294967296+f 0=u:=⟨_,rfl⟩;rw[eu] at eo;have EU:=J eu;clear wa hr eu;go_in;go_wp2;go_ret;exact⟨by rw[I ev,I EU];rfl,rfl⟩
def wN(X Y:Int):Prop:=∀(n m) (fa fb) (va vb) w,Sl w va n fa->Sl w vb m fb->Wd n fa->Wd m fb->Nm n fa->Nm m fb->n<=1000->m<=1000->M fa n=X->M fb m=Y->
 θ ζ 267 #[va,vb] w λe w'=>
  ∃(v1 v2:τ) (l1 l2:β) (f1 f2:β->Int),e=.returned (.tuple #[v1,v2])/\Sl w' v1 l1 f1/\Wd l1 f1/\Nm l1 f1/\Sl w' v2 l2 f2/\Wd l2 f2/\Nm l2 f2/\M f1 l1=X/Y/\M f2 l2=X%Y/\Below w.heap.size w w'
theorem aAk(X Y)(h0:0<=X)(h:X<Y):wN X Y:=by
 intro n m fa fb va vb w ha hb wa wb na nb hn hm hX hY;have t:((m:Int)==0)=false:=by
  rcases Bj m with h1|h1
  .subst h1;have:M fb 0=0:=rfl;omega
  simp;omega
 have EC:=J (AU (show M fa n<M fb m by omega));have HA:=J ha;have HB:=J hb;have WA:=J wa;have WB:=J wb;have NA:=J na;have NB:=J nb;have HX:=J (show M fa n=X%Y by rw[Int.emod_eq_of_lt h0 h];exact hX);have HX0:=J (show X/Y=0 from Ih h0 h);obtain⟨ao,capa,rfl, -, -, -⟩:=ha.view;obtain⟨bo,capb,rfl, -, -, -⟩:=hb.view;clear ha hb wa wb na nb hX hY h h0;go_in;go_wp2_with fail;refine (yI _ _ n m fa fb O O _ (I HA) (I HB) (I WA) (I WB) (I NA) (I NB)).mono ?_;rintro e w1 ⟨rfl,hd⟩;rw[I EC];have HD:=J (hd.below w.heap.size);clear hd;go_wp2_with fail;refine (uM _ n fa O _ ((I HA).below (I HD))).mono ?_;rintro e w2 ⟨v,rfl,h2,h3⟩;have F:=J (show Sl w2 v n fa/\Below w.heap.size w w2 from ⟨h2,bZ (I HD) h3 (I HD).size⟩);clear h2 h3;go_wp2_with fail;go_ret2;exact⟨_,_,0,n,fa,fa,Z,Aa ⟨Z,Z⟩,λi hi=>ρ hi O,Aa Z,(I F).1,I WA,I NA,by rw[I HX0];rfl,I HX,(I F).2⟩
theorem aOe(X Y)(h0:0<Y)(h:Y<=X)(h1:X<18446744073709551616):wN X Y:=by
 intro n m fa fb va vb w ha hb wa wb na nb hn hm hX hY;have t:((m:Int)==0)=false:=by
  rcases Bj m with h1|h1
  .subst h1;have:M fb 0=0:=rfl;omega
  simp;omega
 have hn2:n<=2:=jJ wa na (show M fa n<18446744073709551616 by omega);have hm2:m<=2:=jJ wb nb (show M fb m<18446744073709551616 by omega);have c0:0<=sH (M fa n) (M fb m):=by unfold sH;rw[μ O];split<;>decide
 have HA:=J ha;have HB:=J hb;have WA:=J wa;have WB:=J wb;have NA:=J na;have NB:=J nb;have HX:=J hX;have HY:=J hY;obtain⟨ao,capa,rfl, -, -, -⟩:=ha.view;obtain⟨bo,capb,rfl, -, -, -⟩:=hb.view;have q0:0<=X/Y:=Ei O O;have q1:X/Y<=X:=Fh _ O;have r0:0<=X%Y:=Fb _ O;have r1:X%Y<Y:=Fe _ h0;have ty:(Y==0)=false:=by simp;omega
 clear ha hb wa wb na nb hX hY;go_in;go_wp2_with fail;refine (yI _ _ n m fa fb O O _ (I HA) (I HB) (I WA) (I WB) (I NA) (I NB)).mono ?_;rintro e w1 ⟨rfl,hd⟩;have HD:=J (hd.below w.heap.size);clear hd;go_wp2_with fail;refine (XA _ n fa hn2 _ ((I HA).below (I HD)) (I WA)).mono ?_;rintro e w2 ⟨rfl,rfl⟩;rw[I HX];go_wp2_with fail;refine (XA _ m fb hm2 _ ((I HB).below (I HD)) (I WB)).mono ?_;rintro e w3 ⟨rfl,rfl⟩;rw[I HY];go_wp2_with fail;have y0:Y≠0:=O;have td:X.tdiv Y=X/Y:=Ir O;have tm:X.tmod Y=X%Y:=Iq O;have wq:IntKind.u64.wrap (X/Y)=X/Y:=by rw[Eb];omega
 refine dY (S:=λ_=>True) [(0,false),(1,false),(2,false),(4,false),(5,false),(6,false),(3,true),(7,true),(8,true),(9,true)] [] Yl Yl ?_;iterate 6
  refine bG (v:=?_) Z (λ_ _ _ h=>h) (by rfl) trivial ?_ ?_;rotate_left 1
  .intro wx hwx;clear hwx;go_simp<;>exact rfl
  go_frame
 refine bD Z (λK hK=>?_);go_simp;refine (wM (X/Y) q0 O _).mono ?_;rintro e w4 ⟨v1,l1,f1,rfl,s1,d1,m1,e1,b1⟩;have S1:=J s1;have D1:=J d1;have M1:=J m1;have E1:=J e1;have B1:=J b1;refine hK _ _ (λ_=>trivial) ?_;clear hK K s1 d1 m1 e1 b1;refine bD Z (λK hK=>?_);go_simp;refine (wM (X%Y) r0 O _).mono ?_;rintro e w5 ⟨v2,l2,f2,rfl,s2,d2,m2,e2,b2⟩;have F:=J (show Sl w5 v1 l1 f1/\Wd l1 f1/\Nm l1 f1/\Sl w5 v2 l2 f2/\Wd l2 f2/\Nm l2 f2/\M f1 l1=X/Y/\M f2 l2=X%Y/\Below w.heap.size w w5 from by have h4:Below w.heap.size w w4:=bZ ((I HD).drew) (I B1) (I HD).size;exact⟨(I S1).below b2,I D1,I M1,s2,d2,m2,I E1,e2,bZ h4 b2 h4.size⟩);refine hK _ _ (λ_=>trivial) ?_;clear hK K s2 d2 m2 e2 b2;refine bD Z (λK hK=>?_);go_simp;refine hK _ _ (λ_=>trivial) ?_;clear hK K;refine bD Z (λK hK=>?_);go_simp;refine hK _ _ (λ_=>trivial) ?_;clear hK K;refine fZ ?_;go_wp2_with fail;go_ret2;exact⟨_,_,l1,l2,f1,f2,Z,I F⟩
theorem WN(X Y)(h0:0<=X)(hY:0<Y)(h1:X<18446744073709551616):wN X Y:=by
 rcases Cm X Y with h|h
 .exact aAk X Y h0 h
 exact aOe X Y hY h h1
def TwoV(bx by_:β)(xv yv:τ)(w:ψ):Prop:=w.cell? ⟨bx,1,γ⟩=δ xv/\w.cell? ⟨by_,1,γ⟩=δ yv
variable{w w':ψ}
theorem TwoV.below{bx by_}{xv yv}(h:TwoV bx by_ xv yv w)(k:Below w.heap.size w w'):TwoV bx by_ xv yv w':=⟨lG h.1 k,lG h.2 k⟩
def Turns(z r:β)(w w':ψ):Prop:=(∀(b) y,b≠z->b≠r->Num w b y->Num w' b y)/\(∀B,B<=z->B<=r->B<=w.heap.size->Below B w w')/\w.heap.size<=w'.heap.size
variable{z:β}
theorem Kept.below_of(h:ν z w w'){B}(hz:B<=z)(hB:B<=w.heap.size):Below B w w':=⟨h.os,h.tape,h.output,h.size,λk hk=>h.block k O O⟩
theorem aFx(z bx by_ r)(x y)(s0 s1)(v0 v1)(w)(hz:IntAt w z (.bool s0) v0)(hr:IntAt w r (.bool s1) v1)(hzr:r≠z)(hx:Num w bx x)(hy:Num w by_ y)(dx:Bd x)(dy:Bd y)(hd:wN (ε x) (ε y)):θ ζ 235 #[.pointer (δ ⟨z,0,γ⟩),.pointer (δ ⟨bx,0,γ⟩),.pointer (δ ⟨by_,0,γ⟩),.pointer (δ ⟨r,0,γ⟩)] w λe w'=>e=.returned (.tuple #[.pointer (δ ⟨z,0,γ⟩),.pointer (δ ⟨r,0,γ⟩)])/\Num w' z (cK (Ξ x y) (ε x/ε y))/\Num w' r (cK (decide (x<0)) (ε x%ε y))/\Turns z r w w':=by
 obtain⟨xn,xv,n,fa,hx1,hx2,hx3,hx4,hx5,hx6⟩:=hx;obtain⟨yn,yv,m,fb,hy1,hy2,hy3,hy4,hy5,hy6⟩:=hy;have hn:n<=100:=by unfold Bd at dx;rw[hx5,jY (dP hx3).1] at dx;exact jJ hx3 hx4 dx
 have hm:m<=100:=by unfold Bd at dy;rw[hy5,jY (dP hy3).1] at dy;exact jJ hy3 hy4 dy
 have c1:=hx1.cell0;have c2:=hx1.cell1;have c3:=hy1.cell0;have c4:=hy1.cell1;have AX:=J (show M fa n=ε x by rw[hx5,jY (dP hx3).1]);have AY:=J (show M fb m=ε y by rw[hy5,jY (dP hy3).1]);have XN:=J (show xn=decide (x<0) from by
  rcases Bj n with h0|h0
  .rw[hx6 h0,hx5,hx6 h0,h0];exact (Xf (show ¬((0:Int)<0) by decide)).symm
  have:=qL hx3 hx4 O;rw[hx5];cases xn
  .symm;exact Xf (show ¬M fa n<0 by omega)
  .symm;exact Xt (show -M fa n<0 by omega))
 have YN:=J (show yn=decide (y<0) from by
  rcases Bj m with h0|h0
  .rw[hy6 h0,hy5,hy6 h0,h0];exact (Xf (show ¬((0:Int)<0) by decide)).symm
  have:=qL hy3 hy4 O;rw[hy5];cases yn
  .symm;exact Xf (show ¬M fb m<0 by omega)
  .symm;exact Xt (show -M fb m<0 by omega))
 have HX2:=J hx2;have HX3:=J hx3;have HX4:=J hx4;have HY2:=J hy2;have HY3:=J hy3;have HY4:=J hy4;have HZ:=J hz;have HR:=J hr;have HD:=J hd;obtain⟨ao,capa,rfl, -, -, -⟩:=hx2.view;obtain⟨bo,capb,rfl, -, -, -⟩:=hy2.view;clear hx1 hx2 hx3 hx4 hx5 hx6 hy1 hy2 hy3 hy4 hy5 hy6 hz hr dx dy hd;go_in;go_wp2_with fail;go_region;go_wp2_with fail;refine dY (S:=TwoV bx by_ (ι ao n capa) (ι bo m capb))
  [(0,false),(1,false),(2,false),(3,false),(4,false),(5,false),(6,false),(7,false),(8,true),(9,false),(10,false),(11,false),(12,true),(13,true)] [] Yl Yl ?_
 have hS:TwoV bx by_ (ι ao n capa) (ι bo m capb) w.drew.drew:=⟨c2,c4⟩;clear c1 c2 c3 c4;iterate 8
  refine bG (v:=?_) Z (λ_ _ _ h=>h) (by rfl) hS ?_ ?_;rotate_left 1
  .intro wx hwx;obtain⟨k1,k2⟩:=hwx;go_simp<;>exact rfl
  go_frame
 refine bD Z (λK hK=>?_);go_simp;refine (I HD n m fa fb _ _ _ (by exact I HX2) (by exact I HY2) (I HX3) (I HY3) (I HX4) (I HY4) O O (I AX) (I AY)).mono ?_;rintro e w1 ⟨q1,q2,l1,l2,f1,f2,rfl,h1,h2,h3,h4,h5,h6,h7,h8,h9⟩;have H1:=J h1;have H2:=J h2;have H3:=J h3;have H4:=J h4;have H5:=J h5;have H6:=J h6;have H7:=J h7;have H8:=J h8;have H9:=J h9;obtain⟨vo,cap,rfl, -, -, -⟩:=h1.view;obtain⟨uo,cap2,rfl, -, -, -⟩:=h4.view;have hS1:=hS.below h9;refine hK _ _ (λ_=>hS1) ?_;clear hS hK K h1 h2 h3 h4 h5 h6 h7 h8 h9;iterate 3
  refine bG (v:=?_) Z (λ_ _ _ h=>h) (by rfl) hS1 ?_ ?_;rotate_left 1
  .intro wx hwx;clear hwx;go_simp<;>exact rfl
  go_frame
 refine bD Z (λK hK=>?_);go_simp;refine hK _ _ (λ_=>hS1) ?_;clear hK K;refine bD Z (λK hK=>?_);go_simp;refine hK _ _ (λ_=>hS1) ?_;clear hK K hS1;refine fZ ?_;have HB1:=J (show Below w.heap.size w w1 from ((Drw.refl w).drew.drew.below _).trans (I H9));go_wp2_with fail;refine (lZ z _ _ _ _ _ _ _ (IntAt.below (I HZ) (I HB1))).mono ?_;rintro e w2 ⟨rfl,g1,g2⟩;have G1:=J g1;have G2:=J g2;clear g1 g2;go_wp2_with fail;refine (lZ r _ _ _ _ _ _ _ ((IntAt.below (I HR) (I HB1)).kept (I G2) hzr)).mono ?_;rintro e w3 ⟨rfl,g3,g4⟩;have F:=J (show Num w3 z (cK (Ξ x y) (ε x/ε y))/\Num w3 r (cK (decide (x<0)) (ε x%ε y))/\Turns z r w w3 from by
  have hz1:=IntAt.below (I HZ) (I HB1);have hr1:=IntAt.below (I HR) (I HB1);have hr2:=hr1.kept (I G2) hzr;have hz2:=I G1;have sl1:=(I H1).other (I G2) hz1;have sl2:=(I H4).other (I G2) hz1;have nz:=jC hz2 sl1 (I H2) (I H3);have nz3:=nz.other g4 (λe=>hzr e.symm) hr2;have nr:=jC g3 (sl2.other g4 hr2) (I H5) (I H6);rw[I H7,I XN,I YN] at nz3;rw[I H8,I XN] at nr;refine⟨nz3,nr,?_,?_,?_⟩
  .intro b y' hbz hbr hb;exact ((hb.below (I HB1)).other (I G2) hbz hz1).other g4 hbr hr2
  .intro B hBz hBr hB;have k1:=((I HB1).mono hB);have k2:=(I G2).below_of hBz (Ap hB (I HB1).size);exact (k1.trans k2).trans (g4.below_of hBr (Ap hB (Ap (I HB1).size (I G2).size)))
  exact Ap (I HB1).size (Ap (I G2).size g4.size))
 clear g3 g4;go_wp2_with fail;go_ret2;exact⟨Z,I F⟩
variable{b:β}{x:Int}
theorem Num.intAt(h:Num w b x):∃s v,IntAt w b (.bool s) v:=by obtain⟨neg,v,n,f,h1, -⟩:=h;exact⟨neg,v,h1⟩
theorem Num.sign(h:Num w b x):w.cell? ⟨b,0,γ⟩=δ (.bool (decide (x<0))):=by
 obtain⟨neg,v,n,f,h1,h2,h3,h4,h5,h6⟩:=h;rw[h1.cell0];congr 2;rcases Bj n with h0|h0
 .rw[h6 h0,h5,h6 h0,h0];exact (Xf (show ¬((0:Int)<0) by decide)).symm
 have:=qL h3 h4 O;rw[h5];cases neg
 .symm;exact Xf (show ¬M f n<0 by omega)
 .symm;exact Xt (show -M f n<0 by omega)
variable{r:β}
theorem Turns.of_below(h:Below w.heap.size w w'):Turns z r w w':=⟨λ_ _ _ _ k=>k.below h,λ_ _ _ hB=>h.mono hB,h.size⟩
theorem Turns.of_kept(h:ν z w w')(hz:∃s v,IntAt w z (.bool s) v):Turns z r w w':=by obtain⟨s,v,hz⟩:=hz;exact⟨λ_ _ hb _ k=>k.other h hb hz,λ_ h1 _ h3=>h.below_of h1 h3,h.size⟩
theorem Turns.of_kept'(h:ν r w w')(hz:∃s v,IntAt w r (.bool s) v):Turns z r w w':=by obtain⟨s,v,hz⟩:=hz;exact⟨λ_ _ _ hb k=>k.other h hb hz,λ_ _ h1 h3=>h.below_of h1 h3,h.size⟩
theorem Turns.trans{a b c}(h:Turns z r a b)(k:Turns z r b c):Turns z r a c:=
 ⟨λi y h1 h2 n=>k.1 i y h1 h2 (h.1 i y h1 h2 n),λB h1 h2 h3=>(h.2.1 B h1 h2 h3).trans (k.2.1 B h1 h2 (Ap h3 h.2.2)),Ap h.2.2 k.2.2⟩
variable{y:Int}
theorem aHg(hy:0<y)(hm:¬cK (decide (x<0)) (ε x%ε y)<0):cK (Ξ x y) (ε x/ε y)=x/y/\cK (decide (x<0)) (ε x%ε y)=x%y:=by
 have ey:ε y=y:=by unfold ε;rw[μ O]
 have hn:Ξ x y=decide (x<0):=by unfold Ξ;rw[Xf (show ¬y<0 by omega)];cases decide (x<0)<;>rfl
 rw[ey] at hm ⊢;rw[hn];by_cases hx:x<0
 .have ex:ε x= -x:=by unfold ε;rw[π hx]
  rw[ex,Xt hx] at hm ⊢;have r0:0<= -x%y:=Fb _ O;have hr: -x%y=0:=by have:¬ -(-x%y)<0:=hm;omega
  have e:y*(-x/y)+ -x%y= -x:=Fz _ _;have e2:x/y= -(-x/y):=oP hy (by rw[Ga];omega) (by rw[Ga];omega);have e3:x%y=0:=by rw[Int.emod_def,e2,Ga];omega
  exact⟨e2.symm,by rw[hr,e3];rfl⟩
 have ex:ε x=x:=by unfold ε;rw[μ hx]
 rw[ex,Xf hx];exact⟨Z,Z⟩
theorem aHf(hy:0<y)(hm:cK (decide (x<0)) (ε x%ε y)<0):cK (Ξ x y) (ε x/ε y)-1=x/y/\cK (decide (x<0)) (ε x%ε y)+y=x%y:=by
 have ey:ε y=y:=by unfold ε;rw[μ O]
 have hn:Ξ x y=decide (x<0):=by unfold Ξ;rw[Xf (show ¬y<0 by omega)];cases decide (x<0)<;>rfl
 rw[ey] at hm ⊢;rw[hn];have r0:0<=ε x%y:=Fb _ O;have r1:ε x%y<y:=Fe _ hy;by_cases hx:x<0
 .have ex:ε x= -x:=by unfold ε;rw[π hx]
  rw[ex] at hm r0 r1 ⊢;rw[Xt hx] at hm ⊢;have hr: -(-x%y)<0:=hm;have e:y*(-x/y)+ -x%y= -x:=Fz _ _;have e2:x/y= -(-x/y)-1:=oP hy (by rw[Int.mul_sub,Ga,Ep];omega) (by rw[Int.mul_sub,Ga,Ep];omega);have e3:x%y= -(-x%y)+y:=by rw[Int.emod_def,e2,Int.mul_sub,Ga,Ep];omega
  exact⟨e2.symm,e3.symm⟩
 rw[Xf hx] at hm;have:ε x%y<0:=hm;omega
theorem PQ(h:Bd y)(hx:ε x<=ε y):Bd x:=by unfold Bd at*;omega
theorem aFc(z bx by_ m)(x y)(s0 s1)(v0 v1)(w)(hz:IntAt w z (.bool s0) v0)(hm:IntAt w m (.bool s1) v1)(hzm:m≠z)(hx:Num w bx x)(hy:Num w by_ y)(dx:Bd x)(dy:Bd y)(y0:0<y)(hd:wN (ε x) (ε y)):θ ζ 209 #[.pointer (δ ⟨z,0,γ⟩),.pointer (δ ⟨bx,0,γ⟩),.pointer (δ ⟨by_,0,γ⟩),.pointer (δ ⟨m,0,γ⟩)] w λe w'=>e=.returned (.tuple #[.pointer (δ ⟨z,0,γ⟩),.pointer (δ ⟨m,0,γ⟩)])/\Num w' z (x/y)/\Num w' m (x%y)/\Turns z m w w':=by
 have HZ:=J hz;have HM:=J hm;have HX:=J hx;have HY:=J hy;have DX:=J dx;have DY:=J dy;have HD:=J hd;have zl:=J hz.lt;have ml:=J hm.lt;have QD:=J (show Bd (cK (Ξ x y) (ε x/ε y)) from PQ dx (by rw[jY (Int.ediv_nonneg (show 0<=ε x by unfold ε;split<;>omega) (show 0<=ε y by unfold ε;split<;>omega))];exact Int.ediv_le_self _ (by unfold ε;split<;>omega)));have RD:=J (show Bd (cK (decide (x<0)) (ε x%ε y)) from PQ dy (by
  have hy1:0<ε y:=by unfold ε;split<;>omega
  rw[jY (Fb _ O)];exact Ba (Fe _ hy1)))
 clear hz hm hx hy dx dy hd;go_in;go_wp2_with fail;refine (VR w.heap.size by_ y _ _ _ (kV w) ((I HY).below (fQ w _)) (I DY)).mono ?_;rintro e w1 ⟨rfl,n1,k1⟩;have N1:=J n1;have B1:=J (tJ k1);clear n1 k1;go_wp2_with fail;refine (aFx z bx by_ m x y _ _ _ _ _ (IntAt.below (I HZ) (I B1)) (IntAt.below (I HM) (I B1)) hzm ((I HX).below (I B1)) ((I HY).below (I B1)) (I DX) (I DY) (I HD)).mono ?_;rintro e w2 ⟨rfl,n2,n3,t2⟩;have N2:=J n2;have N3:=J n3;have T2:=J t2;have cs:=n3.sign;have ND:=J (t2.1 w.heap.size y (by have:=I zl;omega) (by have:=I ml;omega) (I N1));have cd:=(I ND).sign;clear n2 n3 t2;have yd:decide (y<0)=false:=Xf O;rw[yd] at cd;by_cases hs:cK (decide (x<0)) (ε x%ε y)<0
 .have E:=J (aHf y0 hs);rw[Xt hs] at cs;clear hs yd;go_wp2_with fail;refine (pE 1 (by unfold χ;omega) _).mono ?_;rintro e w3 ⟨b3,rfl,hb3,n4,k4⟩;have N4:=J n4;have K4:=J k4;clear n4 k4 hb3;have NZ:=J ((I N2).below (I K4));have NM:=J ((I N3).below (I K4));have ND3:=J ((I ND).below (I K4));obtain⟨sz,vz,iz⟩:=(I NZ).intAt;have IZ:=J iz;clear iz;go_wp2_with fail;refine (QQ z z b3 _ 1 _ _ _ (I IZ) (I NZ) (I N4) (I QD) (qV (by unfold χ;omega))).mono ?_;rintro e w4 ⟨rfl,n5,k5⟩;have N5:=J n5;have K5:=J k5;clear n5 k5;have NM4:=J ((I NM).other (I K5) hzm (I IZ));have ND4:=J ((I ND3).other (I K5) (by have:=I zl;omega) (I IZ));obtain⟨sm,vm,im⟩:=(I NM4).intAt;have IM:=J im;clear im;go_wp2_with fail;refine (rA m m w.heap.size _ y _ _ _ (I IM) (I NM4) (I ND4) (I RD) (I DY)).mono ?_;rintro e w5 ⟨rfl,n6,k6⟩;have F:=J (show Num w5 z (x/y)/\Num w5 m (x%y)/\Turns z m w w5 from by have e1:=(I E).1;have e2:=(I E).2;have a:=(I N5).other k6 (λh=>hzm h.symm) (I IM);rw[e1] at a;rw[e2] at n6;exact⟨a,n6,((((Turns.of_below (I B1)).trans (I T2)).trans (Turns.of_below (I K4))).trans (Turns.of_kept (I K5) ⟨_,_,I IZ⟩)).trans (Turns.of_kept' k6 ⟨_,_,I IM⟩)⟩);clear n6 k6;go_wp2_with fail;go_ret2;exact⟨Z,I F⟩
 have E:=J (aHg y0 hs);rw[Xf hs] at cs;clear hs yd;go_wp2_with fail;go_ret2;have F:Num w2 z (x/y)/\Num w2 m (x%y)/\Turns z m w w2:=by have a:=I N2;have b:=I N3;rw[(I E).1] at a;rw[(I E).2] at b;exact⟨a,b,(Turns.of_below (I B1)).trans (I T2)⟩
 exact⟨Z,F⟩
theorem D7(bx by_)(x y)(w)(hx:Num w bx x)(hy:Num w by_ y)(dx:Bd x)(dy:Bd y)(y0:0<y)(hd:wN (ε x) (ε y)):θ ζ 94 #[.pointer (δ ⟨bx,0,γ⟩),.pointer (δ ⟨by_,0,γ⟩)] w λe w'=>∃b,e=.returned (.pointer (δ ⟨b,0,γ⟩))/\Num w' b (x/y)/\Below w.heap.size w w':=by
 have HX:=J hx;have HY:=J hy;have DX:=J dx;have DY:=J dy;have HD:=J hd;clear hx hy dx dy hd;go_in;go_wp2_with (first|(go_at_call 159;go_in));have W2:=J (show Below w.heap.size w ((w.alloc (Γ #[σ false,ι γ 0 0] 141)).alloc (Γ #[σ false,ι γ 0 0] 141)) from
  bZ (fQ w _) (fQ _ _) (by simp))
 have IM:=J (show IntAt ((w.alloc (Γ #[σ false,ι γ 0 0] 141)).alloc (Γ #[σ false,ι γ 0 0] 141)) (w.heap.size+1) (σ false) (ι γ 0 0) from by have h:=kV (w.alloc (Γ #[σ false,ι γ 0 0] 141));rw[show (w.alloc (Γ #[σ false,ι γ 0 0] 141)).heap.size=w.heap.size+1 by simp] at h;exact h);refine (aFc w.heap.size bx by_ (w.heap.size+1) x y _ _ _ _ _ ((kV w).below (fQ _ _)) (I IM) O ((I HX).below (I W2)) ((I HY).below (I W2)) (I DX) (I DY) y0 (I HD)).mono ?_;rintro e w3 ⟨rfl,n1,n2,t⟩;have F:=J (show Num w3 w.heap.size (x/y)/\Below w.heap.size w w3 from ⟨n1,(I W2).trans (t.2.1 w.heap.size (Xr _) O (by simp;omega))⟩);clear n1 n2 t;go_wp2_with fail;go_ret;exact⟨_,Z,I F⟩
variable{s:β}
theorem aFK{a b:Int}(hs:s<32)(a0:0<=a)(a1:a<4294967296):0<=(b*4294967296+a)/2^s%4294967296/\(b*4294967296+a)/2^s%4294967296<4294967296/\(b*4294967296+a)/2^s%4294967296*2^s=a-a%2^s+b%2^s*4294967296:=by
 have hp:=iD s;have hq:=iD (32-s);have h32:(2:Int)^s*2^(32-s)=4294967296:=by rw[<-Ca,show s+(32-s)=32 by omega];rfl
 obtain⟨P,eP⟩:∃P:Int,2^s=P:=⟨_,rfl⟩;obtain⟨Q,eQ⟩:∃Q:Int,2^(32-s)=Q:=⟨_,rfl⟩;rw[eP] at hp h32 ⊢;rw[eQ] at hq h32;clear eP eQ;have ea:P*(a/P)+a%P=a:=Fz a P;have eb:P*(b/P)+b%P=b:=Fz b P;have ra0:0<=a%P:=Fb _ O;have ra1:a%P<P:=Fe _ hp;have rb0:0<=b%P:=Fb _ O;have rb1:b%P<P:=Fe _ hp;have qa0:0<=a/P:=Ei a0 O;have qa1:a/P<Q:=by rw[Ii hp,Bc,h32];exact a1
 have e1:(b*4294967296+a)/P=b*Q+a/P:=by
  apply oP hp
  .rw[Dm,Int.mul_left_comm,h32];omega
  rw[Dm,Int.mul_left_comm,h32];omega
 have e2:b*Q+a/P=(b%P*Q+a/P)+4294967296*(b/P):=by
  have:b*Q=P*(b/P)*Q+b%P*Q:=by rw[<-Bi,eb]
  rw[this,Ib,h32];omega
 have m0:0<=b%P*Q:=Hg rb0 O;have m1:b%P*Q+Q<=4294967296:=by have:=Ci (show b%P+1<=P by omega) (Ba hq);rw[h32,Bi,Fy] at this;exact this
 have e3:(b*4294967296+a)/P%4294967296=b%P*Q+a/P:=by rw[e1,e2,Mi,Int.emod_eq_of_lt O O]
 rw[e3];refine⟨O,O,?_⟩;rw[Bi,Av,Bc Q P,h32,Bc (a/P)];omega
variable{g:β->Int}
theorem aFJ{h:β->Int}{k}(hv:M g k*2^s=M h k-h 0%2^s+h k%2^s*4294967296^k)(hx:x*2^s=h k-h k%2^s+h (k+1)%2^s*4294967296):M (upd g k x) (k+1)*2^s=M h (k+1)-h 0%2^s+h (k+1)%2^s*4294967296^(k+1):=by rw[oQ,Bi,hv,Ib,hx];show _=M h k+h k*4294967296^k-h 0%2^s+h (k+1)%2^s*4294967296^(k+1);rw[Bw,Bc (4294967296^k) 4294967296, <-Av,Bi,Ed];omega
theorem aFI(ao)(n cap ww s)fa(h0:ww<n)(hn:n<=100000)(hs:s<32)(w)(ha:Has w ao n fa)(wa:Wd n fa):θ ζ 171 #[.slice ao n cap,.int .u64 ((32*ww+s:β))] w λe w'=>∃(v:τ) (l:β) (f:β->Int),e=.returned v/\Sl w' v l f/\Wd l f/\Nm l f/\M f l=M fa n/4294967296^ww/2^s/\Below w.heap.size w w':=by
 have hmk:=λwx=>run_make_row' (P:=ζ) 139 168 (η .u32 0) 4 Ec Tryz.infoU32 Z ο ο (n-ww) O O wx;rw[show ((n-ww:β):Int)=(n:Int)-(ww:Int) by omega] at hmk;obtain⟨p,ep⟩:∃p:Int,((32*ww+s:β):Int)=p:=⟨_,rfl⟩;have e1:p/32=(ww:Int):=O;have e2:p%32=(s:Int):=O;have p0:0<=p:=O;have p1:p<4000000:=O;rw[ep];obtain⟨h,eh⟩:∃h:β->Int,h=λi=>vN n fa (ww+i):=⟨_,rfl⟩;have hh1:∀i,ww+i<n->h i=fa (ww+i):=λi hi=>by rw[eh];exact π hi
 have hh2:∀i,¬ww+i<n->h i=0:=λi hi=>by rw[eh];exact μ hi
 have hhw:∀i,0<=h i/\h i<4294967296:=λi=>by
  by_cases hi:ww+i<n
  .rw[hh1 i hi];exact wa _ hi
  rw[hh2 i hi];exact⟨Bp _,by decide⟩
 have EV:=J (show M fa n/4294967296^ww=M h (n-ww) from by have e:=qR fa ww (n-ww);rw[show ww+(n-ww)=n by omega] at e;have b:=dP (wa.less (show ww<=n by omega));rw[e,Hf,Int.mul_add_ediv_left' _ _ (φ ww) b.1 b.2];exact wL (λi hi=>(hh1 i O).symm));have HA:=J ha;have H1:=J hh1;have H2:=J hh2;have HW:=J hhw;clear ha wa ep eh hh1 hh2 hhw;go_in;go_wp2_with fail;clear hmk e1;go_loopw [8,9] (λis _ wr=>∃(k:β) (g:β->Int),is=η ο k/\k<=n-ww/\Own wr w.heap.size (n-ww) g/\(∀j,0<=g j/\g j<4294967296)/\M g k*2^s=M h k-h 0%2^s+h k%2^s*4294967296^k/\Below w.heap.size w wr)
  (λis _ _=>n-ww-(ξ is).toNat)
 case atStart=>exact⟨0,_,rfl,Xz _,tX w (n-ww),λ_=>⟨Bp _,by decide⟩,by show 0*_=0-h 0%2^s+h 0%2^s*4294967296^0;simp;omega,fQ w _⟩
 case round=>
  obtain⟨k,g,rfl,hk,hO,hG,hv,hB⟩:=hrel;have HO:=J hO;have HG:=J hG;have HV:=J hv;have HB:=J hB;clear hO hG hv hB;by_cases hkn:k<n-ww
  .obtain⟨ba,rfl,hba,hra⟩:=Has.below' (I HA) (I HB) O;have ca:=hra (k+ww) O;rw[show fa (k+ww)=h k by rw[I H1 k O,Ey]] at ca;obtain⟨a0,a1⟩:=I HW k;obtain⟨b0,b1⟩:=I HW (k+1);have co:=(I HO).cell (show k<n-ww by omega);have fo:=(I HO).free k;obtain⟨q0,q1,q2⟩:=aFK (b:=h (k+1)) hs a0 a1;have HS:=J (aFJ (I HV) q2);have eo:=DF (h (k+1)) (h k) b0 b1 a0 a1;obtain⟨y,ey⟩:∃y,h (k+1)*4294967296+h k=y:=⟨_,rfl⟩;have y0:0<=y:=O;have y1:y<18446744073709551616:=O;rw[ey] at eo q0 q1 HS;have z0:0<=y/2^s:=Ei y0 (Ba (iD s));have z1:y/2^s<=y:=Fh _ y0;clear q2;by_cases hl:ww+k+1<n
   .have ca2:=hra (k+ww+1) O;rw[show fa (k+ww+1)=h (k+1) by rw[I H1 (k+1) O];congr 1;omega] at ca2;clear hra ey;go_wp2_with fail;go_roundw;case rel=>exact⟨k+1,_,by go_num,O,(I HO).set k _,rng_upd (I HG) q0 q1,I HS,(I HB).setCell (Xr _) _⟩
    case measure=>simp[ξ];omega
   have e0:h (k+1)=0:=I H2 (k+1) O;have ey2:h k=y:=by rw[e0] at ey;omega
   rw[ey2] at ca;clear hra ey eo e0 a0 a1 b0 b1;go_wp2_with fail;go_roundw;case rel=>exact⟨k+1,_,by go_num,O,(I HO).set k _,rng_upd (I HG) q0 q1,I HS,(I HB).setCell (Xr _) _⟩
   case measure=>simp[ξ];omega
  .have hkn2:k=n-ww:=O;subst hkn2;have E1:=J (show M g (n-ww)=M fa n/4294967296^ww/2^s from by
    have hv:=I HV;rw[I H2 (n-ww) O,Int.zero_emod,Fa] at hv;have m0:=Fb (h 0) (show (2:Int)^s≠0 by have:=iD s;omega);have m1:=Fe (h 0) (iD s);rw[I EV]
    symm;apply oP (iD s)
    .rw[Bc];omega
    rw[Bc];omega)
   have HWD:=J (show Wd (n-ww) g from λi _=>I HG i);have HOL:=J (I HO).lt;go_wp2_with fail;refine (mP w.heap.size (n-ww) (n-ww) g (Xr _) O _ (I HO).row).mono ?_;rintro e w1 ⟨l,rfl,hl,hz,hnm,rfl⟩;have F:=J (show Sl w1 (ι (δ ⟨w.heap.size,0,γ⟩) l (n-ww)) l g/\Wd l g/\Nm l g/\M g l=M fa n/4294967296^ww/2^s/\Below w.heap.size w w1 from
    ⟨Ab ⟨_,_,rfl,hl,O,I HOL,(I HO).row.less hl⟩,(I HWD).less hl,hnm,by rw[<-gV hl hz];exact I E1,I HB⟩)
   clear hz hnm;go_wp2_with fail;go_ret;exact⟨_,l,_,Z,I F⟩
theorem MK(va)(n p:β)fa(hn:n<=100000)(hp:p<=3000000)(w)(ha:Sl w va n fa)(wa:Wd n fa):θ ζ 171 #[va,.int .u64 (p)] w λe w'=>∃(v:τ) (l:β) (f:β->Int),e=.returned v/\Sl w' v l f/\Wd l f/\Nm l f/\M f l=M fa n/2^p/\Below w.heap.size w w':=by
 obtain⟨ao,cap,rfl, -, -,ha⟩:=ha.view;rcases Ar (p/32) n with h0|h0
 .have h:=aFI ao n cap (p/32) (p%32) fa h0 hn O w ha wa;rw[show 32*(p/32)+p%32=p by omega] at h;refine h.mono ?_;rintro e w' ⟨v,l,f,h1,h2,h3,h4,h5,h6⟩;refine⟨v,l,f,h1,h2,h3,h4,?_,h6⟩;rw[h5,pG,Mh (Ba (iD _)), <-Ca,show 32*(p/32)+p%32=p by omega]
 have EV:=J (show M fa n/2^p=0 from by have b:=dP wa;refine Ih b.1 (Int.lt_of_lt_of_le b.2 ?_);rw[pG];exact kN O);clear ha wa;obtain⟨q,eq⟩:∃q:Int,(p:Int)=q:=⟨_,rfl⟩;obtain⟨ww,eww⟩:∃ww:β,p/32=ww:=⟨_,rfl⟩;have e1:q/32=(ww:Int):=O;have q0:0<=q:=O;have q1:q<4000000:=O;rw[eq];rw[eww] at h0;clear eq eww;go_in;go_wp2_with fail;go_ret;exact⟨_,0,fa,Z,Aa ⟨Z,Z⟩,λi hi=>ρ hi O,Aa Z,by rw[I EV];rfl,Af _ _⟩
theorem div_one(X Y)(h0:0<Y)(h:18446744073709551616<=X)(h1:Y<4294967296):wN X Y:=by
 intro n m fa fb va vb w ha hb wa wb na nb hn hm hX hY;have m0:m≠0:=by intro h2;subst h2;have:M fb 0=0:=rfl;omega
 obtain rfl:m=1:=by have:=jJ (k:=1) wb nb (show M fb m<4294967296 by omega);omega
 have n3:3<=n:=by
  rcases Ar n 3 with h2|h2
  .have:=(dP wa).2;have h3:(4294967296:Int)^n<=4294967296^2:=by rw[pG,pG];exact kN O
   have h4:(4294967296:Int)^2=18446744073709551616:=by decide
   omega
  exact h2
 have c0:0<=sH (M fa n) (M fb 1):=by unfold sH;rw[μ O];split<;>decide
 obtain rfl:fb 0=Y:=by rw[<-hY];show fb 0=0+fb 0*4294967296^0;simp
 have HA:=J ha;have HB:=J hb;have WA:=J wa;have WB:=J wb;have NA:=J na;have NB:=J nb;have HX:=J hX;obtain⟨ao,capa,rfl, -, -, -⟩:=ha.view;rcases hb with ⟨-,h2⟩|⟨bb,capb,rfl, -, -,hbb,hrb⟩
 .cases h2
 have cb:=hrb 0 O;have r0:0<=X%fb 0:=Fb _ O;have r1:X%fb 0<fb 0:=Fe _ h0;clear ha wa wb na nb hX hY hrb m0 h;go_in;go_wp2_with fail;refine (yI _ _ n 1 fa fb O O _ (I HA) (I HB) (I WA) (I WB) (I NA) (I NB)).mono ?_;rintro e w1 ⟨rfl,hd⟩;have HD:=J (hd.below w.heap.size);have cb1:=lG cb (I HD);clear hd;go_wp2_with fail;refine (XM _ n fa (fb 0) h0 h1 O _ ((I HA).below (I HD)) (I WA)).mono ?_;rintro e w2 ⟨v1,l1,f1,rfl,s1,d1,m1,e1,b1⟩;rw[I HX] at e1;have S1:=J s1;have D1:=J d1;have M1:=J m1;have E1:=J e1;have B2:=J (bZ (I HD) b1 (I HD).size);clear s1 d1 m1 e1 b1;rw[I HX];obtain⟨r,er⟩:∃r,X%fb 0=r:=⟨_,rfl⟩;rw[er] at r0 r1 ⊢;go_wp2_with fail;have hr:Δ (w2.alloc (Γ #[η .u32 r] 168)) w2.heap.size 1 (λ_=>r):=by
  intro i hi;rw[World.cell?_alloc_new]
  match i,hi with
  |0,_=>rfl
 refine (mP w2.heap.size 1 1 _ Yc Yc _ hr).mono ?_;rintro e w3 ⟨l,rfl,hl,hz,hnm,rfl⟩;have F:=J (show Sl (w2.alloc (Γ #[η .u32 r] 168)) v1 l1 f1/\Wd l1 f1/\Nm l1 f1/\Sl (w2.alloc (Γ #[η .u32 r] 168)) (ι (δ ⟨w2.heap.size,0,γ⟩) l 1) l (λ_=>r)/\Wd l (λ_=>r)/\Nm l (λ_=>r)/\M f1 l1=X/fb 0/\M (λ_=>r) l=X%fb 0/\Below w.heap.size w (w2.alloc (Γ #[η .u32 r] 168)) from by refine⟨(I S1).below (fQ w2 _),I D1,I M1,Ab ⟨_,_,Z,hl,by decide,by simp,hr.less hl⟩,λ_ _=>⟨r0,show r<4294967296 by omega⟩,hnm,I E1,?_,bZ (I B2) (fQ w2 _) (I B2).size⟩;rw[<-gV hl hz,er];show 0+r*4294967296^0=r;simp);clear hr hz hnm;go_wp2_with fail;go_ret2;exact⟨_,_,l1,l,f1,_,Z,I F⟩
def sh(F:β->Int)(j:β):β->Int:=λi=>F (j+i)
theorem TH(F:β->Int)(j i)(x):sh (upd F (j+i) x) j=upd (sh F j) i x:=by
 funext y;unfold sh upd;by_cases h:y=i
 .subst h;simp
 rw[μ O,μ h]
variable{F:β->Int}{n:β}
theorem ZM{j}(h:∀i,0<=F i/\F i<4294967296):Wd n (sh F j):=λi _=>h (j+i)
theorem aJh(F:β->Int)(j n):M F (j+n)=M F j+4294967296^j*M (sh F j) n:=qR F j n
structure Dv (A:Int) (m T N:β) (v F q:β->Int) (k:β):Prop where
 f:∀i,0<=F i/\F i<4294967296
 g:∀i,0<=q i/\q i<4294967296
 qz:∀i,i<k->q i=0
 z:∀i,k+m<=i->i<T->F i=0
 lt:M F (k+m)<M v m*4294967296^k
 e:A=M F (k+m)+M v m*M q N
structure Dr (m:β) (v:β->Int):Prop where
 m2:2<=m
 w:Wd m v
 top:2147483648<=v (m-1)
variable{m:β}{v:β->Int}
theorem Dr.pos(h:Dr m v):0<M v m:=by have h2:=h.m2;have ht:=h.top;exact qL h.w (Ab O) O
theorem aPV(f:β->Int)(m)(hw:Wd (m+2) f):(f (m+1)*4294967296+f m)*4294967296^m<=M f (m+2)/\M f (m+2)<(f (m+1)*4294967296+f m)*4294967296^m+4294967296^m:=by
 have b:=dP (hw.less (show m<=m+2 by omega));have e:M f (m+2)=M f m+(f (m+1)*4294967296+f m)*4294967296^m:=by show M f m+f m*4294967296^m+f (m+1)*4294967296^(m+1)=_;rw[Bw,Bc (4294967296^m) 4294967296, <-Av,Bi];omega
 omega
theorem aIY(f:β->Int)(m)(hw:Wd (m+3) f):((f (m+2)*4294967296+f (m+1))*4294967296+f m)*4294967296^m<=M f (m+3)/\M f (m+3)<((f (m+2)*4294967296+f (m+1))*4294967296+f m)*4294967296^m+4294967296^m:=by
 have b:=dP (hw.less (show m<=m+3 by omega));have e:M f (m+3)=M f m+((f (m+2)*4294967296+f (m+1))*4294967296+f m)*4294967296^m:=by
  show M f m+f m*4294967296^m+f (m+1)*4294967296^(m+1)+f (m+2)*4294967296^(m+2)=_;have e1:(4294967296:Int)^(m+1)=4294967296*4294967296^m:=by rw[Bw,Bc]
  have e2:(4294967296:Int)^(m+2)=4294967296*(4294967296*4294967296^m):=by rw[Bw,e1,Bc]
  rw[e1,e2,Bi,Bi,Bi];have e3:f (m+2)*(4294967296*(4294967296*4294967296^m))=f (m+2)*4294967296*4294967296*4294967296^m:=by rw[<-Av, <-Av]
  have e4:f (m+1)*(4294967296*4294967296^m)=f (m+1)*4294967296*4294967296^m:=by rw[<-Av]
  rw[e3,e4];omega
 omega
variable{A:Int}{N:β}
theorem aDX{T j}{q:β->Int}(h:Dv A m T N v F q (j+1)):M F (j+1+m)=M F j+4294967296^j*M (sh F j) (m+1)/\0<=M (sh F j) (m+1)/\M (sh F j) (m+1)<M v m*4294967296:=by
 have e:M F (j+1+m)=M F j+4294967296^j*M (sh F j) (m+1):=by rw[show j+1+m=j+(m+1) by omega];exact aJh F j (m+1)
 have b0:=(dP (ZM (n:=m+1) (j:=j) h.f)).1;refine⟨e,b0,?_⟩;have b1:=(dP (n:=j) (λi _=>h.f i)).1;have hl:=h.lt;rw[e,Bw, <-Av,Ib (M v m),Bc (4294967296^j)] at hl;have hp:=φ j;rcases Cm (M (sh F j) (m+1)) (M v m*4294967296) with h1|h1
 .exact h1
 have:=Ci h1 (Ba hp);omega
variable{f:β->Int}
theorem aJT(hv:Dr m v)(hf:∀i,0<=f i/\f i<4294967296)(hU:M f (m+1)<M v m*4294967296):0<=M f (m+1)/M v m/\M f (m+1)/M v m<=4294967295/\f m*4294967296+f (m-1)<=v (m-1)*4294967296+4294967295/\(∀q,(f m*4294967296+f (m-1))*4294967296+f (m-2)<q*(v (m-1)*4294967296+v (m-2))->M f (m+1)/M v m<q)/\(∀g,R5 (f m*4294967296+f (m-1)) (f (m-2)) (v (m-1)) (v (m-2)) (M f (m+1)/M v m) g->g*M v m<M f (m+1)+M v m):=by
 have hm:=hv.m2;have hV:=hv.pos;have ht:=hv.top;obtain⟨p,rfl⟩:∃p,m=p+2:=⟨m-2,O⟩;rw[show p+2-1=p+1 by omega,show p+2-2=p by omega] at*;have tv:=aPV v p hv.w;have tf:=aIY f p (λi _=>hf i);have b0:=(dP (n:=p+2+1) (λi _=>hf i:Wd (p+2+1) f)).1;have hp:=φ p;have w0:=hv.w p O;have w1:=hv.w (p+1) O;have f0:=hf p;have f1:=hf (p+1);have f2:=hf (p+2);refine⟨Ei b0 (Ba hV),?_,?_,?_,?_⟩
 .have:M f (p+2+1)/M v (p+2)<4294967296:=by rw[Ii hV,Bc];exact hU
  omega
 .
  rcases Cm (f (p+2)*4294967296+f (p+1)) ((v (p+1)+1)*4294967296) with h1|h1
  .omega
  .exfalso;have a1:((v (p+1)+1)*4294967296*4294967296)*4294967296^p<=((f (p+2)*4294967296+f (p+1))*4294967296+f p)*4294967296^p:=Ci O (Ba hp);have a2:(v (p+1)*4294967296+v p)*4294967296^p+4294967296^p<=((v (p+1)+1)*4294967296)*4294967296^p:=by have:=Ci (show v (p+1)*4294967296+v p+1<=(v (p+1)+1)*4294967296 by omega) (Ba hp);rw[Bi (v (p+1)*4294967296+v p),Fy] at this;exact this
   have a3:(v (p+1)+1)*4294967296*4294967296*4294967296^p=((v (p+1)+1)*4294967296)*4294967296^p*4294967296:=by rw[Ib]
   have e3:M f (p+3)=M f (p+2+1):=rfl;omega
 .intro q hq;exact aOn hp hV tv.1 tf.2 O O hq
 .intro g hg;obtain⟨h1,h2,h3,h4⟩:=hg;exact aKj hp ht tv.1 tv.2 w0.1 tf.1 h2 h3 h4
theorem aDW{T j}{G q:β->Int}{t}(hv:Dr m v)(h:Dv A m T N v F q (j+1))(hN:j<N)(hg:∀i,0<=G i/\G i<4294967296)(hs:∀i,i<j\/j+m<i->G i=F i)(ht:0<=t/\t<4294967296)(hr:M (sh G j) (m+1)=M (sh F j) (m+1)-t*M v m)(hr1:M (sh G j) (m+1)<M v m):Dv A m T N v G (upd q j t) j:=by
 obtain⟨e1,e2,e3⟩:=aDX h;have hV:=dP hv.w;have b0:=(dP (ZM (n:=m) (j:=j) hg)).1;have eG:M (sh G j) (m+1)=M (sh G j) m+G (j+m)*4294967296^m:=rfl;have hz:G (j+m)=0:=by
  rcases Cm 0 (G (j+m)) with h1|h1
  .have:=Ci (show 1<=G (j+m) by omega) (Ba (φ m));omega
  have:=(hg (j+m)).1;omega
 rw[hz,Fa,Int.add_zero] at eG;have eFG:M G j=M F j:=wL (λi hi=>hs i (Aa hi));have eVG:M G (j+m)=M F j+4294967296^j*M (sh G j) m:=by rw[aJh,eFG]
 have bj:=dP (n:=j) (λi _=>h.f i);refine⟨hg,?_,?_,?_,?_,?_⟩
 .exact rng_upd h.g ht.1 ht.2
 .intro i hi;rw[jF _ _ O];exact h.qz i O
 .intro i h1 h2;rcases Ar (j+m) i with h3|h3
  .rw[hs i (Ab h3)];exact h.z i O h2
  have:i=j+m:=O;subst this;exact hz
 .rw[eVG];have:=Dl (show M (sh G j) m+1<=M v m by omega) (Ba (φ j));rw[Dm,Ep] at this;rw[Bc (M v m)];omega
 rw[eVG, <-eG,hr,zP _ _ _ hN,h.qz j O,h.e,e1,Int.sub_zero];rw[Int.mul_sub,Dm (M v m),Bc (4294967296^j) (t*M v m),Ib t,Bc (t*4294967296^j) (M v m)];omega
theorem aJU{q c d}(hv:Dr m v)(hg:∀i,0<=g i/\g i<4294967296)(ht:M f (m+1)/M v m<=q)(h:M g m=M f m-q*M v m+(c+d)*4294967296^m)(hx:x=f m-c-d)(h0:0<=x)(h1:x<4294967296):M (upd g m x) (m+1)=M f (m+1)-q*M v m/\M (upd g m x) (m+1)<M v m:=by
 have e:M (upd g m x) (m+1)=M f (m+1)-q*M v m:=by rw[oQ,h,hx];show _=M f m+f m*4294967296^m-_;rw[Ed,Ed,Bi];omega
 refine⟨e,?_⟩;have hV:=hv.pos;have b:=(dP (n:=m+1) (λi _=>rng_upd hg h0 h1 i:Wd (m+1) (upd g m x))).1;have hle:q<=M f (m+1)/M v m:=by rw[xK hV];omega
 obtain rfl:q=M f (m+1)/M v m:=O;rw[e];have:=Fz (M f (m+1)) (M v m);have m1:=Fe (M f (m+1)) hV;rw[Bc] at this;omega
theorem aOf{g2:β->Int}{q c d c2}(hv:Dr m v)(hg:∀i,0<=g i/\g i<4294967296)(hg2:∀i,0<=g2 i/\g2 i<4294967296)(hw:q*M v m<M f (m+1)+M v m)(h:M g m=M f m-q*M v m+(c+d)*4294967296^m)(hx:x=f m-c-d)(h0:x<0)(h1: -4294967296<=x)(h2:M g2 m+c2*4294967296^m=M g m+M v m):(x+4294967296+c2)%4294967296=0/\M (upd g2 m 0) (m+1)=M f (m+1)-(q-1)*M v m/\M (upd g2 m 0) (m+1)<M v m:=by
 have hp:=φ m;have hV:=dP hv.w;have bg:=dP (n:=m) (λi _=>hg i:Wd m g);have bg2:=dP (n:=m) (λi _=>hg2 i:Wd m g2);have ef:M f (m+1)=M f m+f m*4294967296^m:=rfl;have e1:M g m=M f (m+1)-q*M v m-x*4294967296^m:=by rw[h,hx,ef,Ed,Ed,Bi];omega
 have e2:M g2 m=M f (m+1)-q*M v m+M v m-(x+c2)*4294967296^m:=by rw[Bi];omega
 have hneg:M f (m+1)-q*M v m<0:=by have a:=Ci (show x<= -1 by omega) (Ba hp);omega
 obtain⟨R,eR⟩:∃R,M f (m+1)-q*M v m+M v m=R:=⟨_,rfl⟩;have R0:0<R:=O;have R1:R<M v m:=O;have hs:x+c2=0:=by
  rw[eR] at e2;rcases Int.lt_trichotomy (x+c2) 0 with h3|h3|h3
  .have a:=Ci (show x+c2<= -1 by omega) (Ba hp);omega
  .exact h3
  have a:=Ci (show 1<=x+c2 by omega) (Ba hp);omega
 rw[hs,Fa,Int.sub_zero] at e2;have e3:M (upd g2 m 0) (m+1)=M g2 m:=by rw[oQ,Fa,Int.add_zero]
 refine⟨O,?_,?_⟩
 .rw[e3,e2,Ed,Fy];omega
 rw[e3,e2,eR];exact R1
theorem aRX{q c d}(hf:Wd m f)(hg:Wd m g)(h:M g m=M f m-q*M v m+(c+d)*4294967296^m)(hy:0<=y)(hx:y-c-d<0)(q0:0<=q):1<=q:=by
 rcases Cm 0 q with h1|h1
 .omega
 obtain rfl:q=0:=O;have bg:=dP hg;have bf:=dP hf;rw[Fa,Int.sub_zero] at h;have:=Ci (show 1<=c+d by omega) (Ba (φ m));omega
theorem tT(h:Num w b x):∃s v,IntAt w b (.bool s) v:=by obtain⟨neg,v,n,f,h1, -⟩:=h;exact⟨neg,v,h1⟩
theorem aNu(z bx)(x)(s0)(v0)(w)(hz:IntAt w z (.bool s0) v0)(hx:Num w bx x)(dx:Bd x):θ ζ 110 #[.pointer (δ ⟨z,0,γ⟩),.pointer (δ ⟨bx,0,γ⟩)] w λe w'=>e=.returned (.pointer (δ ⟨z,0,γ⟩))/\Num w' z (ε x)/\ν z w w':=by
 obtain⟨xn,xv,n,fa,hx1,hx2,hx3,hx4,hx5,hx6⟩:=hx;have hn:n<=100:=by unfold Bd at dx;rw[hx5,jY (dP hx3).1] at dx;exact jJ hx3 hx4 dx
 have c2:=hx1.cell1;have HX2:=J hx2;have HX3:=J hx3;have HX4:=J hx4;have E:=J (show M fa n=ε x by rw[hx5,jY (dP hx3).1]);have HZ:=J hz;obtain⟨ao,capa,rfl, -, -, -⟩:=hx2.view;clear hx1 hx2 hx3 hx4 hx5 hx6 hz dx;go_in;go_wp2_with fail;refine (uM _ n fa O _ (I HX2)).mono ?_;rintro e w1 ⟨v,rfl,h2,h6⟩;have H2:=J h2;have H6:=J h6;obtain⟨vo,cap,rfl, -, -, -⟩:=h2.view;clear h2 h6 c2;go_wp2_with fail;refine (lZ z _ _ _ _ _ _ _ (IntAt.below (I HZ) (I H6))).mono ?_;rintro e w2 ⟨rfl,g1,g2⟩;have F:=J (show Num w2 z (ε x)/\ν z w w2 from by have hsl:=(I H2).other g2 (IntAt.below (I HZ) (I H6));have hnum:=jC g1 hsl (I HX3) (I HX4);rw[I E] at hnum;exact⟨hnum,(Ch (I H6)).trans g2 (Aa Z)⟩);clear g1 g2;go_wp2_with fail;go_ret;exact⟨Z,(I F).1,(I F).2⟩
theorem aPp(z bx p:β)(x)(hx0:0<=x)(hp:p<=3000000)(s0)(v0)(w)(hz:IntAt w z (.bool s0) v0)(hx:Num w bx x)(dx:Bd x):θ ζ 112 #[.pointer (δ ⟨z,0,γ⟩),.pointer (δ ⟨bx,0,γ⟩),.int .u64 (p)] w λe w'=>e=.returned (.pointer (δ ⟨z,0,γ⟩))/\Num w' z (x/2^p)/\ν z w w':=by
 obtain⟨xn,xv,n,fa,hx1,hx2,hx3,hx4,hx5,hx6⟩:=hx;have hn:n<=100:=by unfold Bd at dx;rw[hx5,jY (dP hx3).1] at dx;exact jJ hx3 hx4 dx
 have hxn:xn=false:=by
  rcases Bj n with h|h
  .exact hx6 h
  cases xn
  .rfl
  have:=qL hx3 hx4 O;have e:x= -M fa n:=hx5;omega
 subst hxn;have c1:=hx1.cell0;have c2:=hx1.cell1;have HX2:=J hx2;have HX3:=J hx3;have HX4:=J hx4;have E:=J (show M fa n=x from hx5.symm);have HZ:=J hz;obtain⟨ao,capa,rfl, -, -, -⟩:=hx2.view;clear hx1 hx2 hx3 hx4 hx5 hx6 hz dx;go_in;go_wp2_with fail;refine (MK _ n p fa O hp _ (I HX2) (I HX3)).mono ?_;rintro e w1 ⟨v,l,f,rfl,h2,h3,h4,h5,h6⟩;have H2:=J h2;have H3:=J h3;have H4:=J h4;have H5:=J h5;have H6:=J h6;obtain⟨vo,cap,rfl, -, -, -⟩:=h2.view;clear h2 h3 h4 h5 h6 c1 c2;go_wp2_with fail;refine (lZ z _ _ _ _ _ _ _ (IntAt.below (I HZ) (I H6))).mono ?_;rintro e w2 ⟨rfl,g1,g2⟩;have F:=J (show Num w2 z (x/2^p)/\ν z w w2 from by have hsl:=(I H2).other g2 (IntAt.below (I HZ) (I H6));have hnum:=jC g1 hsl (I H3) (I H4);rw[I H5,I E] at hnum;exact⟨hnum,(Ch (I H6)).trans g2 (Aa Z)⟩);clear g1 g2;go_wp2_with fail;go_ret;exact⟨Z,(I F).1,(I F).2⟩
theorem aKN(x:Int)(Y k):x^(Y/2^(k+1))*x^(Y/2^(k+1))*(if Y/2^k%2=1 then x else 1)=x^(Y/2^k):=by
 have e:Y/2^(k+1)=Y/2^k/2:=by rw[Cg,Iu]
 rw[e, <-Ca];obtain⟨q,eq⟩:∃q,Y/2^k=q:=⟨_,rfl⟩;rw[eq];split
 .rename_i h;rw[<-Bw];congr 1;omega
 rw[Ep];congr 1;omega
theorem uJ(hx:1<=x):∀n:β,1<=x^n
 |0=>by simp
 |n+1=>by rw[Bw];have:=Dl hx (show 0<=x^n by have:=uJ hx n;omega);have:=uJ hx n;omega
theorem aBy(hx:1<=x)(h:n<=m):x^n<=x^m:=by obtain⟨d,rfl⟩:∃d,m=n+d:=⟨m-n,O⟩;rw[Ca];have:=Dl (uJ hx d) (show 0<=x^n by have:=uJ hx n;omega);omega
theorem aEa(z bx b_y)(x)(Y:β)(x1:1<=x)(hb:x^Y<4294967296^50)(hY:Y<4294967296)(s0)(v0)(w)(hz:IntAt w z (.bool s0) v0)(hx:Num w bx x)(hy:Num w b_y Y)(dx:Bd x):θ ζ 90 #[.pointer (δ ⟨z,0,γ⟩),.pointer (δ ⟨bx,0,γ⟩),.pointer (δ ⟨b_y,0,γ⟩),.pointer γ] w λe w'=>e=.returned (.pointer (δ ⟨z,0,γ⟩))/\Num w' z (x^Y)/\ν z w w':=by
 obtain⟨yn,yv,n,fa,hy1,hy2,hy3,hy4,hy5,hy6⟩:=hy;have hyn:yn=false:=by
  rcases Bj n with h|h
  .exact hy6 h
  cases yn
  .rfl
  have:=qL hy3 hy4 O;have e:(Y:Int)= -M fa n:=hy5;omega
 subst hyn;have hn:n<=1:=jJ hy3 hy4 (by rw[<-show (Y:Int)=M fa n from hy5];show (Y:Int)<4294967296;omega);have HY1:=J hy1;have HY2:=J hy2;have HY3:=J hy3;have HY4:=J hy4;have EY:=J (show M fa n=(Y:Int) from hy5.symm);have HZ:=J hz;have HX:=J hx;have DX:=J dx;have HBD:=J hb;obtain⟨ao,capa,rfl, -, -, -⟩:=hy2.view;clear hy1 hy2 hy3 hy4 hy5 hy6 hz hx dx hb;go_in;go_wp2_with fail;refine (VR w.heap.size bx x _ _ _ (kV w) ((I HX).below (fQ w _)) (I DX)).mono ?_;rintro e w1 ⟨rfl,n1,k1⟩;have N1:=J n1;have B1:=J (tJ k1);have c0:=((I HY1).below (I B1)).cell0;clear n1 k1;go_wp2_with fail;refine (pE 1 (by unfold χ;omega) _).mono ?_;rintro e w2 ⟨br,rfl,hbr,n2,k2⟩;have N2:=J n2;have K2:=J k2;have B2:=J (bZ (I B1) k2 (I B1).size);have c1:=((I HY1).below (I B2)).cell1;have GB:=J (show w.heap.size<br from by have:=(I N1).lt;omega);clear n2 k2 hbr c0;go_wp2_with fail;refine (uM _ n fa O _ ((I HY2).below (I B2))).mono ?_;rintro e w3 ⟨ev,rfl,h3,k3⟩;have NB:=J (((I N1).below (I K2)).below k3);have NR:=J ((I N2).below k3);have SE:=J h3;have B3:=J (bZ (I B2) k3 (I B2).size);obtain⟨eo,cape,rfl, -, -, -⟩:=h3.view;clear h3 k3 c1;go_wp2_with fail;refine (I8 _ n fa O _ (I SE) (I HY3) (I HY4)).mono ?_;rintro e w4 ⟨L,rfl,l0,l1,l2,rfl⟩;rw[I EY] at l1 l2;have hL:Y/2^L=0:=Gu (by
  have:((2^L:β):Int)=(2:Int)^L:=by simp
  omega)
 have HL32:L<=32*n:=by
  rcases Bj n with h|h
  .rw[l0 h];omega
  have h2:=l2 O;have h3:(2:Int)^L<2^33:=by
   have e33:(2:Int)^33=8589934592:=by decide
   omega
  have:=QH h3;omega
 have SR:=J (show Num w4 br (x^(Y/2^L)) from by rw[hL,Int.pow_zero];exact I NR);have BDS:=J (show ∀q:β,q<=Y->Bd (x^q) from λq hq=>vF (k:=50) (by have h1:=uJ x1 q;have h2:=aBy x1 hq;have h3:=I HBD;have e:ε (x^q)=x^q:=μ O;omega) Yc);clear l0 l1 l2 hL;go_wp2_with fail;go_loopw [14] (λis wr=>∃k:β,is=η ο ((k:Int)-1)/\k<=L/\Num wr br (x^(Y/2^k))/\Num wr w.heap.size x/\Sl wr (ι eo n cape) n fa/\Below w.heap.size w wr)
  (λis _=>(ξ is+1).toNat)
 case atStart=>exact⟨L,rfl,Xr _,I SR,I NB,I SE,I B3⟩
 case round=>
  obtain⟨k,rfl,hk,r1,r2,r3,r4⟩:=hrel;have R1:=J r1;have R2:=J r2;have R3:=J r3;have R4:=J r4;clear r1 r2 r3 r4;rcases Bj k with hz0|hz0
  .subst hz0;have R1':=J (show Num wr br (x^Y) from by have:=I R1;rw[He,Nat.div_one] at this;exact this);go_wp2_with fail;refine (VR z br _ _ _ _ ((I HZ).below (I R4)) (I R1') (I BDS Y (Xr _))).mono ?_;rintro e w5 ⟨rfl,n5,k5⟩;have F:=J (show Num w5 z (x^Y)/\ν z w w5 from ⟨n5,(Ch (I R4)).trans k5 (Aa Z)⟩);clear n5 k5;go_wp2_with fail;go_ret;exact⟨Z,I F⟩
  .obtain⟨j,rfl⟩:∃j,k=j+1:=⟨k-1,O⟩;rw[show (((j+1:β):Int)-1)=(j:Int) by omega];have n1':1<=n:=O;have hj32:j/32<n:=O;obtain⟨be,ebe,hlt,hrow⟩:∃be,eo=δ ⟨be,0,γ⟩/\be<wr.heap.size/\Δ wr be n fa:=by
    rcases I R3 with ⟨-,h⟩|⟨be,cap',hv, -, -,hlt,hr⟩
    .omega
    cases hv;exact⟨be,Z,hlt,hr⟩
   subst ebe;clear hrow;have q1:Y/2^(j+1)<=Y:=Nat.div_le_self _ _;have q2:Y/2^(j+1)+Y/2^(j+1)<=Y:=by
    have:Y/2^(j+1)=Y/2^j/2:=by rw[Cg,Iu]
    have:=Nat.div_le_self Y (2^j);omega
   obtain⟨sr,vr,ir⟩:=tT (I R1);have IR:=J ir;have BD1:=J (I BDS _ q1);have BD2:=J (I BDS _ q2);have GB':br≠w.heap.size:=by have:=I GB;omega
   clear ir q1 q2;go_wp2_with fail;refine (zK br br br _ _ _ _ _ (I IR) (I R1) (I R1) (I BD1) (I BD1)).mono ?_;rintro e w5 ⟨rfl,n5,k5⟩;have N5:=J n5;have NB5:=J ((I R2).other k5 (λh=>GB' h.symm) (I IR));have S5:=J ((I R3).other k5 (I IR));have B5:=J (gB (I R4) k5 (by have:=I GB;omega));clear n5 k5;obtain⟨hrow5,hwd⟩:Δ w5 be n fa/\Wd n fa:=by
    refine⟨?_,I HY3⟩;rcases I S5 with ⟨h, -⟩|⟨be',cap',hv, -, -, -,hr⟩
    .cases h
    cases hv;exact hr
   have HR5:=J hrow5;clear hrow5 hwd;go_wp2_with fail;refine (aDJ be n cape j fa O _ (I HR5) (I HY3) hj32).mono ?_;rintro e w6 ⟨rfl,rfl⟩;rw[I EY];have eb:(Y:Int)/2^j%2=((Y/2^j%2:β):Int):=by
    have:((2^j:β):Int)=(2:Int)^j:=by simp
    rw[<-this];omega
   rw[eb];clear eb;have HP:=J (aKN x Y j);rcases (show Y/2^j%2=0\/Y/2^j%2=1 by omega) with hbit|hbit
   .rw[hbit];have N5':=J (show Num w6 br (x^(Y/2^j)) from by have h:=I HP;rw[μ O,Ep] at h;rw[<-h];exact I N5);clear hbit;go_wp2_with fail;go_roundw;case rel=>exact⟨j,by go_num,O,I N5',I NB5,I S5,I B5⟩
    case measure=>simp[ξ]
   rw[hbit];obtain⟨sr,vr,ir⟩:=tT (I N5);have IR5:=J ir;have BD3:=J (show Bd (x^(Y/2^(j+1))*x^(Y/2^(j+1))) from by rw[<-Ca];exact I BD2);have HP':=J (show x^(Y/2^(j+1))*x^(Y/2^(j+1))*x=x^(Y/2^j) from by have h:=I HP;rw[π hbit] at h;exact h);clear ir hbit;go_wp2_with fail;refine (zK br br w.heap.size _ x _ _ _ (I IR5) (I N5) (I NB5) (I BD3) (I DX)).mono ?_;rintro e w7 ⟨rfl,n7,k7⟩;have N7:=J (show Num w7 br (x^(Y/2^j)) from by rw[<-I HP'];exact n7);have NB7:=J ((I NB5).other k7 (λh=>GB' h.symm) (I IR5));have S7:=J ((I S5).other k7 (I IR5));have B7:=J (gB (I B5) k7 (by have:=I GB;omega));clear n7 k7;go_wp2_with fail;go_roundw;case rel=>exact⟨j,by go_num,O,I N7,I NB7,I S7,I B7⟩
   case measure=>simp[ξ]
theorem RN{g l}(hl:l<=n)(h:w.heap[g]?=δ (.cells (splice (Ψ #[ω .u32 0] n).toList 0 ((Λ l).map (λi=>ω .u32 (f i)))).toArray 168 (0,0))):Own w g n (vN l f):=by
 have hs:(Ψ #[ω .u32 0] n).size=n:=size_madeCells _ _;refine⟨_,h,?_,?_⟩
 .simp[splice,hs];omega
 intro i hi;show ((splice (Ψ #[ω .u32 0] n).toList 0 ((Λ l).map (λi=>ω .u32 (f i)))).toArray)[i]?=δ (η .u32 (if i<l then f i else 0));rw[Ho];unfold splice;rw[List.take_zero,Da];by_cases hil:i<l
 .rw[π hil,List.getElem?_append_left (by simpa using hil),List.getElem?_map,List.getElem?_range hil];rfl
 rw[μ hil,List.getElem?_append_right (by simpa using hil)];simp only[Ao,Ck,Ah,List.getElem?_drop];rw[show l+(i-l)=i by omega];simp[Ψ,hi,Nat.mod_one]
theorem aDz(n l cap g)(ao)f(hl:l<=n)(w)(hg:w.heap[g]?=δ (.cells (Ψ #[.int .u32 0] n) 168 (0,0)))(hs:Sl w (.slice ao l cap) l f):∃w1,(Builtin.copy_ #[139,139] 3 #[.slice (δ ⟨g,0,γ⟩) n n,.slice ao l cap]).run ζ w=.ok (.int .i64 l) w1/\Own w1 g n (vN l f)/\ν g w w1:=by
 obtain⟨i0,hii,hz0,hz1,hz2⟩:=Ef Tryz.infoU32;have hsz:(Tryz.prog.info? 168).map (·.size)=δ 1:=by rw[hii];simp[hz1]
 have hms:(Ψ #[ω .u32 0] n).size=n:=size_madeCells _ _;rcases Bj l with h0|h0
 .subst h0;refine⟨_,run_copy_none (P:=ζ) _ _ _ _ 168 _ _ _ _ _ _ Ec hsz (Nat.zero_min _),?_,Kept.refl _ _⟩;refine RN (f:=f) (Xz _) ?_;rw[hg];simp[splice]
 rcases hs with ⟨-,h⟩|⟨bv,cap',hv, -, -,hb,hr⟩
 .exact ρ h O
 obtain rfl:ao=δ ⟨bv,0,γ⟩:=by cases hv;rfl
 have hlen:((Λ l).map (λi=>ω .u32 (f i))).length=l:=by rw[Ao,Ck]
 have hrun:=run_copy_row (P:=ζ) w 139 139 3 168 g 0 n n ⟨bv,0,γ⟩ l cap _ _ ((Λ l).map (λi=>ω .u32 (f i)))
  Ec hsz hg (by rw[hlen];exact (Nat.min_eq_left hl).symm) (by
   intro j u hj;rw[Bu] at hj;rcases Ar j l with h|h
   .rw[Cr h] at hj;simp at hj;subst hj;have e:(⟨bv,0,γ⟩:å).add j=⟨bv,j,γ⟩:=by unfold Addr.add;by_cases hj0:j=0<;>simp[hj0]
    rw[e];exact hr j h
   .rw[List.getElem?_eq_none (by simpa using h)] at hj;cases hj) (by rw[hlen,hms];omega) (by
   intro u hu;obtain⟨i,_,rfl⟩:=Eh.1 hu;rfl)
 rw[hlen] at hrun;refine⟨_,hrun,?_,⟨Z,Z,Z,by simp[World.setRow],λk _ hk=>setRow_other w g k _ hk⟩⟩;refine RN hl ?_;rw[setRow_heap _ _ _ _ _ _ hg];simp[splice]
theorem aKB{b}{L l}(hL:1<=L)(h1:b<2^L)(h2:2^L<=2*b)(hb:4294967296<=b)(hw:Wd l f)(hn:Nm l f)(hv:M f l=b*2^(31-(L-1)%32)):l=(L-1)/32+1/\Dr l f/\2*M f l≥4294967296^l:=by
 obtain⟨K,rfl⟩:∃K,L=K+1:=⟨L-1,O⟩;rw[show K+1-1=K by omega] at*;obtain⟨s,es⟩:∃s,31-K%32=s:=⟨_,rfl⟩;rw[es] at hv;have e1:K+1+s=32*(K/32+1):=O;have hp:=iD s;have hK:(2:Int)^(K+1)=2*2^K:=by rw[Bw,Bc]
 have u1:M f l<4294967296^(K/32+1):=by rw[hv,pG, <-e1,Ca];exact Iz h1 hp
 have u2:4294967296^(K/32+1)<=2*M f l:=by rw[hv,pG, <-e1,Ca, <-Av];exact Ci h2 (Ba hp)
 have l1:=jJ hw hn u1;have hlow:K/32+1<=l:=by
  rcases Ar l (K/32+1) with h|h
  .have a:=(dP hw).2;have a2:(4294967296:Int)^l<=4294967296^(K/32):=by rw[pG,pG];exact kN O
   rw[Bw] at u2;have:=φ (K/32);omega
  exact h
 obtain rfl:l=K/32+1:=O;refine⟨Z,⟨?_,hw,?_⟩,u2⟩
 .rcases Ar K 32 with h|h
  .have:(2:Int)^(K+1)<=2^32:=kN O;have e32:(2:Int)^32=4294967296:=by decide
   omega
  omega
 rw[show K/32+1-1=K/32 by omega];have b1:=dP (hw.less (show K/32<=K/32+1 by omega));have ev:M f (K/32+1)=M f (K/32)+f (K/32)*4294967296^(K/32):=rfl;have:=φ (K/32);rw[Bw] at u2;rcases Cm (f (K/32)) 2147483648 with h|h
 .have:=Ci (show f (K/32)<=2147483647 by omega) (Ba (φ (K/32)));omega
 exact h
theorem Own.same(h:Own w b N g)(hb:w'.heap[b]?=w.heap[b]?):Own w' b N g:=by obtain⟨cs,h1,h2,h3⟩:=h;exact⟨cs,hb.trans h1,h2,h3⟩
theorem Own.other{c}(h:Own w b N g)(hb:b≠c)(i)(u):Own (w.setCell ⟨c,i,γ⟩ u) b N g:=h.same (heap_setCell_other w ⟨c,i,γ⟩ b u hb)
end
end Go.Proofs.YthimcecbgpamdaaGreatDoor
