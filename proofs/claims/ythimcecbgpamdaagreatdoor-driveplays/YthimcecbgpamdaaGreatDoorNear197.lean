import Derived.Test.YthimcecbgpamdaaGreatDoorNear191
set_option maxHeartbeats 8000000
set_option maxRecDepth 10000
open Go.Proofs.YthimcecbgpamdaaGreatDoor renaming Qv->E,qa->N,Yo->O,q_c->ε,aTY->ι,aTZ->ν,splC->ο,linK->σ,vhI->τ,R64->υ,aUa->ψ,numW->ω,qjG->Γ,aUb->Θ,qjN->Λ,digW->Ω,qrG->á,fRest->â,absZ->ã,linS->ä,PlAt->ç,tunP->è,rowV->é,splC_ne->ë,wrongM->ì,lieP_none->í,neg1_R->ï,noLies->ð,R64_nought->ó
open _root_ renaming rfl->J,Nat->Z,if_neg->δ,if_pos->η,List->θ,absurd->ρ,congrArg->æ
open Option renaming some->β
open Go.Value renaming int->γ,slice->κ,pointer->φ,bool->Δ,tuple->î,int->ò
open Go.IntKind renaming i64->ζ
open Go.Proofs.Tryz renaming prog->μ
open Go renaming World->ξ,execOp->π,Operand->χ,Calls->Ξ,Value->Φ,Oper->å
open List renaming replicate->Ψ,isPrefixOf->ñ
open Go.Lib renaming decDigits->à
open Go.World renaming ownsRow->ê
namespace Go.Proofs.YthimcecbgpamdaaGreatDoor
open Go.RowKit Go.Lib
theorem aPX(L:θ (θ UInt8)):L.map tV=(List.range L.length).map (jE L):=by refine List.ext_getElem (by rw[Ao,Ao,Ck]) (λi h1 h2=>?_);rw[Ao] at h1;rw[List.getElem_map,List.getElem_map,List.getElem_range];unfold jE;rw[Bh,Bf h1];rfl
theorem MQ(c:UInt8)(l:θ UInt8)(mx:Int)(w:ξ)(hl:l.length<=4000000000)(hm:w.cell? ⟨1,0,none⟩=β (.int .i64 mx)):Ξ μ 13 #[tV l,tV [c]] w λe w'=>e=.returned (.slice (β ⟨w.heap.size,0,none⟩) (ο c l).length (ο c l).length)/\Vh 9 w' w.heap.size (ο c l).length (ο c l).length (jE (ο c l))/\Below w.heap.size w w':=by refine (Tryz.strings_Split ⟨l.toArray⟩ ⟨[c].toArray⟩ mx w (by show l.toArray.size<_;rw[Co];omega) hm (Xr 1)).mono (λe w' ⟨h1,h2⟩=>?_);have e1:countB ⟨l.toArray⟩ ⟨[c].toArray⟩+1=(ο c l).length:=aFV c l;have e2:(splitB ⟨[c].toArray⟩ 0 (countB ⟨l.toArray⟩ ⟨[c].toArray⟩) ⟨l.toArray⟩).map Value.string=(ο c l).map tV:=XP c l;have hle:=uB c l;rw[h2,e2,aPX];rw[e1] at h1;exact⟨h1,Cf _ _ Ym (by show (w.heap.push _)[w.heap.size]?=_;rw[Bt]),bU _ _⟩
section
variable {f:χ->Φ} {o:å}
theorem aLi(x:χ)(ho:o.op=.slice 59 x (β (.const (.int .i64 1))) none none){b n:Z}(hx:f x=.slice (β ⟨b,0,none⟩) (n+1) (n+1))(w:ξ)(hk:∀v,f (.const v)=v:=by exact λ_=>rfl):(π f o).run μ w=.ok (.value (.slice (β ⟨b,if 0<n then 1 else 0,none⟩) n n)) w:=by
 by_cases h:0<n
 .have:=X6 x ho hx O w hk;rw[η h];exact this
 obtain rfl:n=0:=O;unfold π;rw[ho];simp only[Cc,Dx];rw[hx,hk];go_simp
theorem gN(x y:χ)(ho:o.op=.binOp .eql 9 x y 9){s t:θ UInt8}{b:Bool}(hx:f x=tV s)(hy:f y=tV t)(hb:decide (s=t)=b)(w:ξ):(π f o).run μ w=.ok (.value (.bool b)) w:=by refine aLk x y ho hx hy ?_ w;rw[<-hb];refine Dc.2 ⟨λh=>?_,λh=>by rw[h]⟩;have:=æ (λa:ByteArray=>a.data.toList) h;simpa using this
end
variable{b:Z}{s:Pl}{w w0:ξ}
theorem PlAt.call{w':ξ}(h:ç w0 w b s)(k:Below w.heap.size w w'):ç w0 w' b s:=by obtain⟨D,c,p,v,hO,hp,H⟩:=h;exact⟨D,c,p,v,hO,hp,H.call k⟩
theorem PlAt.bel(h:ç w0 w b s):Below w0.heap.size w0 w:=by obtain⟨D,c,p,v,hO,hp,H⟩:=h;exact H.bel
variable{q:θ (θ UInt8)}
theorem aSp{k:θ UInt8}(m:Vh 9 w b (k::q).length (k::q).length (jE (k::q))):RdS xH 1 w (β ⟨b,if 0<q.length then 1 else 0,none⟩) q:=λh=>⟨b,1,by rw[η h],λi c hi j hj=>by have hl:=(Gi.1 hi).1;have:=m.cell (i:=i+1) (by rw[Ai];omega);rw[show 1+i*1+j=i+1 by omega,this];unfold jE xH;rw[Bh,List.getElem?_cons_succ,hi];rfl⟩
theorem aFw(mx:Int)(hm:w0.cell? ⟨1,0,none⟩=β (.int .i64 mx))(hT:TabOK w0)(hP:ç w0 w b s)(hsl:s.o.length<=140737488340000)(l:θ UInt8)(hl:l.length<=100000):Ξ μ 15 #[.pointer (β ⟨b,0,none⟩),tV l] w λe w'=>e=.returned (.bool (kS s l).isSome)/\ç w0 w' b ((kS s l).getD s):=by
 refine bC Tryz.func15 J 46 J Yd (λA hs hd hb=>?_);have b0:A.eval (.tmp 0)=φ (β ⟨b,0,none⟩):=hb 0 _ J;have b1:A.eval (.tmp 1)=tV l:=hb 1 _ J;clear hb;refine aD (aG ?_);refine N ?_;refine aC<|aH<|aD<|qa ?_;by_cases h0:l=[]
 .refine qg (gN (b:=true) (t:=[]) _ _ J E J (Xt h0) _) ?_;refine aC<|aS E ?_;refine aD<|qa ?_;refine aC ?_;have e:kS s l=β s:=by unfold kS;rw[η h0]
  exact aQ (fF (aN YB (bS J E) ⟨by rw[e];rfl,by rw[e];exact hP⟩))
 refine qg (gN (b:=false) (t:=[]) _ _ J E J (Xf h0) _) ?_;refine aC<|aO E ?_;refine aR<|aD<|qa ?_;refine ε (MQ 32 l mx w O (aP hm hP.bel)) ?_;rintro e w1 ⟨rfl,m1,k1⟩;replace hP:=hP.call k1;have hlen:=uB 32 l;obtain⟨k,q,ek⟩:∃k q,ο 32 l=k::q:=by
  cases h:ο 32 l with
  |nil=>exact ρ h (ë _ _)
  |cons k q=>exact⟨k,q,rfl⟩
 have eP:kS s l=if k=[116,117,110,101] then è s q else if k=[114,101,97,100] then rE s q else if k=[98,97,100] then yU s q else if k=[103,111,111,100] then NI s q else if k=[108,105,101] then sI s q else if k=[102,114,97,109,101] then vL s q else none:=by unfold kS;rw[δ h0,ek]
 rw[ek] at m1 hlen ⊢;rw[eP];have hq:q.length<=1000000:=by rw[Ai] at hlen;omega
 refine⟨κ (β ⟨w.heap.size,0,none⟩) (q.length+1) (q.length+1),J,?_⟩;have hr:=aSp m1;refine N ?_;refine aC<|aD<|qa ?_;refine qg (aLi _ J E _) ?_;refine N ?_;refine aC<|aH<|aD<|qa ?_;refine qg (dD (i:=0) _ _ _ _ J SlcK.out SizK.out E E J O _) ?_;refine qg (aT (v:=tV k) _ _ J OneK.out E m1 (by rw[Ai];omega) rfl) ?_;refine aC<|aJ<|aD ?_;by_cases c1:k=[116,117,110,101]
 .refine qg (gN (b:=true) (t:=[116,117,110,101]) _ _ J E J (Xt c1) _) ?_;refine N ?_;refine aC<|aS E ?_;rw[η c1];refine aD ?_;iterate 2 refine N ?_
  refine ε (aFY mx hm hP q _ _ hr hq) ?_;rintro e w2 ⟨rfl,h2⟩;refine⟨_,J,?_⟩;refine N ?_;refine aC ?_;exact aQ (lQ (fF (aN YB (bS J E) ⟨J,h2⟩)))
 refine qg (gN (b:=false) (t:=[116,117,110,101]) _ _ J E J (Xf c1) _) ?_;refine N ?_;refine aC<|aO E ?_;rw[δ c1];refine aD ?_;by_cases c2:k=[114,101,97,100]
 .refine qg (gN (b:=true) (t:=[114,101,97,100]) _ _ J E J (Xt c2) _) ?_;refine N ?_;refine aC<|aS E ?_;rw[η c2];refine aD ?_;iterate 2 refine N ?_
  refine ε (aFy mx hm hP q _ _ hr hq (Xr _)) ?_;rintro e w2 ⟨rfl,h2⟩;refine⟨_,J,?_⟩;refine N ?_;refine aC ?_;exact aQ (lQ (fF (aN YB (bS J E) ⟨J,h2⟩)))
 refine qg (gN (b:=false) (t:=[114,101,97,100]) _ _ J E J (Xf c2) _) ?_;refine N ?_;refine aC<|aO E ?_;rw[δ c2];refine aD ?_;by_cases c3:k=[98,97,100]
 .refine qg (gN (b:=true) (t:=[98,97,100]) _ _ J E J (Xt c3) _) ?_;refine N ?_;refine aC<|aS E ?_;rw[η c3];refine aD ?_;iterate 2 refine N ?_
  refine ε (aGp hP q _ _ hr hq) ?_;rintro e w2 ⟨rfl,h2⟩;refine⟨_,J,?_⟩;refine N ?_;refine aC ?_;exact aQ (lQ (fF (aN YB (bS J E) ⟨J,h2⟩)))
 refine qg (gN (b:=false) (t:=[98,97,100]) _ _ J E J (Xf c3) _) ?_;refine N ?_;refine aC<|aO E ?_;rw[δ c3];refine aD ?_;by_cases c4:k=[103,111,111,100]
 .refine qg (gN (b:=true) (t:=[103,111,111,100]) _ _ J E J (Xt c4) _) ?_;refine N ?_;refine aC<|aS E ?_;rw[η c4];refine aD ?_;iterate 2 refine N ?_
  refine ε (aFi hP q _ _ hq) ?_;rintro e w2 ⟨rfl,h2⟩;refine⟨_,J,?_⟩;refine N ?_;refine aC ?_;exact aQ (lQ (fF (aN YB (bS J E) ⟨J,h2⟩)))
 refine qg (gN (b:=false) (t:=[103,111,111,100]) _ _ J E J (Xf c4) _) ?_;refine N ?_;refine aC<|aO E ?_;rw[δ c4];refine aD ?_;by_cases c5:k=[108,105,101]
 .refine qg (gN (b:=true) (t:=[108,105,101]) _ _ J E J (Xt c5) _) ?_;refine N ?_;refine aC<|aS E ?_;rw[η c5];refine aD ?_;iterate 2 refine N ?_
  refine ε (aHy mx hm hP q _ _ hr hq (Xr _)) ?_;rintro e w2 ⟨rfl,h2⟩;refine⟨_,J,?_⟩;refine N ?_;refine aC ?_;exact aQ (lQ (fF (aN YB (bS J E) ⟨J,h2⟩)))
 refine qg (gN (b:=false) (t:=[108,105,101]) _ _ J E J (Xf c5) _) ?_;refine N ?_;refine aC<|aO E ?_;rw[δ c5];refine aD ?_;by_cases c6:k=[102,114,97,109,101]
 .refine qg (gN (b:=true) (t:=[102,114,97,109,101]) _ _ J E J (Xt c6) _) ?_;refine N ?_;refine aC<|aS E ?_;rw[η c6];refine aD ?_;iterate 2 refine N ?_
  refine ε (aCX hT hP hsl q _ _ hq) ?_;rintro e w2 ⟨rfl,h2⟩;refine⟨_,J,?_⟩;refine N ?_;refine aC ?_;exact aQ (lQ (fF (aN YB (bS J E) ⟨J,h2⟩)))
 refine qg (gN (b:=false) (t:=[102,114,97,109,101]) _ _ J E J (Xf c6) _) ?_;refine N ?_;refine aC<|aO E ?_;rw[δ c6];refine gT<|aD<|qa ?_;refine aC ?_;exact aQ (aN YB (bS J E) ⟨J,hP⟩)
instance iRdN_11:ZerK μ 141 2 (λj=>if j=0 then .bool false else .slice none 0 0):=⟨λw=>Yl⟩
theorem JW(h:Vh 141 w b 2 2 (λj=>if j=0 then .bool false else .slice none 0 0)):IntAt w b (.bool false) (.slice none 0 0):=by
 obtain⟨c,hb,hs,_,_,hc⟩:=h;unfold IntAt;rw[hb];have e:c=#[Δ false,κ none 0 0]:=by
  have h0:=hc 0 O;have h1:=hc 1 O;apply Array.ext_getElem?;intro i
  match i with
  |0=>exact h0
  |1=>exact h1
  |i+2=>rw[Ij O];rfl
 rw[e]
variable{f:χ->Φ}
theorem aIC{o:å}(x:χ)(ho:o.op=.slice 9 x (β (.const (.int .i64 1))) none none){c:UInt8}{t:θ UInt8}(hx:f x=tV (c::t))(w:ξ)(hk:∀v,f (.const v)=v:=by exact λ_=>rfl):(π f o).run μ w=.ok (.value (tV t)) w:=by
 have h2:(1:Int)<=(((c::t).length:Z):Int):=by rw[Ai];omega
 unfold π;rw[ho];simp only[Cc,Dx];rw[hx,hk];go_simp;rw[η O];refine æ (λs=>Result.ok (Next.value (Value.string s)) w) (wJ ?_);rw[Dy,Dy,Lib.extract_data];simp
theorem NY(c:UInt8)(r:θ UInt8):sS (c::r)=decide (c=45):=by
 unfold sS Lib.hasPrefix;by_cases h:c=45
 .rw[h];simp[ñ]
 simp[ñ,h];exact λe=>h e.symm
theorem aFs(c:UInt8)(r:θ UInt8):kG (c::r)=Lib.cut (if c=45 then r else c::r) [46]:=by unfold kG Lib.trimPrefix;rw[show Lib.hasPrefix (c::r) [45]=sS (c::r) from rfl,NY];by_cases h:c=45<;>simp[h]
variable{Q:Exit->Act->ξ->Prop}
theorem aEh{P:Program}{ops:Array å}{a:Act}{id id2:Z}{y:Code}(h:CodI P y Q a w):LstI P ops (Exit.inBlock id2 (Exit.inBlock id (Nx P y Q))) [] a w:=⟨wpList_nil h⟩
theorem aDr(l:θ UInt8)(w:ξ):Ξ μ 47 #[tV l] w λe w'=>e=.returned (.tuple #[.int .i64 (jL l),.int .i64 (lV l)])/\Below w.heap.size w w':=by
 refine bC Tryz.func47 J 116 J Yd (λA hs hd hb=>?_);have b0:A.eval (.tmp 0)=tV l:=hb 0 _ J;clear hb;refine aD (aG ?_);iterate 2 refine N ?_
 refine aC<|aH<|aD<|qa ?_;refine qg (jS _ J E _) ?_;by_cases h60:60<l.length
 .refine ψ ?_;refine aC<|aS E ?_;refine aD ?_;iterate 2 refine N ?_
  refine aC ?_;exact aQ (fF (aN YB (iP J E E) ⟨by unfold jL lV;rw[η h60,η h60],Af _ _⟩))
 rw[<-(XC l O).1, <-(XC l O).2];refine Θ ?_;refine aC<|aO E ?_;refine aR<|aD ?_;iterate 2 refine N ?_
 refine aC ?_;obtain⟨t,et⟩:∃t,t=(if l.head?=β 45 then l.tail else l):=⟨_,rfl⟩;obtain⟨wh,fr,pt,hp⟩:∃wh fr pt,kG l=(wh,fr,pt):=⟨_,_,_,rfl⟩;have ht60:t.length<=60:=by rw[et];split<;>(try rw[List.length_tail])<;>omega
 have hsc:aEL t wh fr pt:=by
  refine aJN ?_;rw[<-hp];cases l with
  |nil=>rw[et];rfl
  |cons c r=>rw[et,aFs];by_cases h:c=45<;>simp[h]
 refine lS (λA W=>W=w/\A.tmps.size=116/\A.defers=[]/\A.eval (.tmp 0)=tV l/\A.eval (.tmp 4)=tV t) ?_ (λC W2 hI=>?_)
 .refine aD<|qa ?_;refine qg (jS _ J E _) ?_;cases l with
  |nil=>
   refine qg (bW (b:=false) _ _ J E E Yc _) ?_;refine N ?_;iterate 3 refine bP ?_
   refine ι ?_;refine aC<|aO E ?_;exact iE ⟨J,J,YA,YB,E,by rw[et];exact E⟩
  |cons c r=>
   refine qg (bW (b:=true) _ _ J E E (Xt (by rw[Ai];omega)) _) ?_;iterate 2 refine N ?_
   refine qg (lK (l:=c::r) (k:=0) _ _ J E E J (Nat.zero_lt_succ _) _) ?_;by_cases h45:c=45
   .subst h45;refine qg (jR (b:=true) _ _ J E E (Xt J) _) ?_;refine ν ?_;refine aC<|aS E ?_;refine aI<|qa ?_;refine qg (aIC _ J E _) ?_;refine N ?_;exact kL ⟨J,J,YA,YB,E,by rw[et];exact E⟩
   refine qg (jR (b:=false) _ _ J E E (Xf (λh=>h45 (Fx.1 (by have h:((c.toNat:Z):Int)=45:=h;show _=45;omega)))) _) ?_;refine ν ?_;refine aC<|aO E ?_;exact iE ⟨J,J,YA,YB,E,Ae E (by rw[et,δ (show ¬(c::r).head?=β 45 from λh=>h45 (Dp h))])⟩
 clear b0 hs hd;obtain⟨rfl,hs,hd,b0,b4⟩:=hI;refine aD (aG ?_);iterate 2 refine N ?_
 refine aC<|aH<|aD<|qa ?_;refine aC<|aJ ?_;have FB:oJ l=false->VN l=0/\VG l=2:=λh=>by unfold VN VG;rw[η h,η h];exact⟨J,J⟩
 refine bR (λr A W=>∃i:Z,W=W2/\i<=t.length/\t.length-i<=r/\A.tmps.size=116/\A.defers=[]/\A.eval (.tmp 0)=tV l/\A.eval (.tmp 4)=tV t/\A.eval (.tmp 5)=tV (sQ t i)/\A.eval (.tmp 6)=γ ζ (yO wh pt i)/\A.eval (.tmp 7)=γ ζ (i:Z)/\TW t wh fr pt i) t.length
  ⟨0,rfl,Xz _,O,YA,YB,E,E,E,by unfold yO;rw[δ (λh=>by omega)];exact E,E,λj hj=>ρ hj O⟩ (λr B W hI=>?_)
 clear b0 b4 hs hd;obtain⟨i,rfl,hi,hir,hs,hd,b0,b4,b5,b6,b7,hg⟩:=hI;have hk:(sQ t i).length<=60:=by unfold sQ;refine Ap (List.length_filter_le _ _) ?_;rw[Ea];omega
 refine aH<|aD (aG ?_);iterate 2 refine N ?_
 refine qg (jS _ J E _) ?_;refine N ?_;refine aC<|fB (λhc=>?_) (λhc=>?_)
 .have hin:i<t.length:=by have:=Xu hc;omega
  have lt:(t.take i).length=i:=by rw[Ea];omega
  have el:t=t.take i++([t[i]]++t.drop (i+1)):=by rw[<-Ce,Fw hin,uV]
  refine aR<|aH<|aJ<|aJ<|aD ?_;iterate 2 refine N ?_
  refine qg (lK (l:=t) (k:=i) _ _ J E E J hin _) ?_;refine ε (aGI (t[i].toNat) (UInt8.toNat_lt _) W) ?_;rintro e w' ⟨rfl,rfl⟩;rw[show (decide (48<=t[i].toNat)&&decide (t[i].toNat<=57))=qA t[i] from rfl];refine⟨_,J,?_⟩;refine N ?_;refine aC ?_;cases hd2:qA t[i] with
  |true=>
   obtain⟨n1,n2,n3⟩:=aPI hsc hg hin hd2;refine aS E ?_;refine aI ?_;iterate 4 refine N ?_
   refine qg (nA _ _ J E E O O _) ?_;refine qg (EI (p:=t.take i) (m:=[t[i]]) (q:=t.drop (i+1)) _ _ _ J (by rw[<-el];exact E) E E (by rw[lt]) (by rw[lt];rfl) _) ?_;refine qg (gZ _ _ J E E (by simp only[Ai,Au];omega) _) ?_;refine N ?_;refine aEh ?_;refine aI ?_;repeat refine N ?_
   exact aU ⟨t.length-(i+1),O,i+1,J,O,O,YA,YB,E,E,Ae E (by rw[n1]),Ae E (by rw[n2]),Ae E YC,n3⟩
  |false=>
   refine aO E ?_;refine aD ?_;iterate 2 refine N ?_
   refine qg (lK (l:=t) (k:=i) _ _ J E E J hin _) ?_;have hiff:=aLO (i:=i) hsc hin;by_cases hb:t[i]=46/\pt=true/\i=wh.length/\wh≠[]/\fr≠[]
   .obtain⟨q1,q2,q3,q4⟩:=hiff.2 hb;obtain⟨n1,n2,n3⟩:=aPJ hg hin hb;refine qg (jR (b:=true) _ _ J E E (by rw[q1];decide) _) ?_;iterate 2 refine N ?_
    refine ψ ?_;refine ν ?_;iterate 2 refine N ?_
    refine ψ ?_;refine ν ?_;iterate 2 refine N ?_
    refine qg (nA _ _ J E E O O _) ?_;refine N ?_;refine qg (jS _ J E _) ?_;refine ψ ?_;refine ν ?_;refine N ?_;refine aC<|aS E ?_;refine aI ?_;iterate 2 refine N ?_
    refine aEh ?_;refine aI ?_;repeat refine N ?_
    exact aU ⟨t.length-(i+1),O,i+1,J,O,O,YA,YB,E,E,Ae E (by rw[n1]),Ae E (by rw[n2]),Ae E YC,n3⟩
   have hb2:¬(t[i]=46/\yO wh pt i<0/\0<i/\i+1<t.length):=λh=>hb (hiff.1 h);obtain⟨f1,f2⟩:=FB (aJD hp hsc hin hd2 hb);by_cases q1:t[i]=46;refine qg (jR (b:=true) _ _ J E E (by rw[q1];decide) _) ?_;iterate 2 refine N ?_
   by_cases q2:yO wh pt i<0;refine ψ ?_;refine ν ?_;iterate 2 refine N ?_
   by_cases q3:0<i;refine ψ ?_;refine ν ?_;iterate 2 refine N ?_
   refine qg (nA _ _ J E E O O _) ?_;refine N ?_;refine qg (jS _ J E _) ?_;refine qg (dH (b:=false) _ _ J E E (Xf (λh=>hb2 ⟨q1,q2,q3,O⟩)) _) ?_;refine ν ?_;refine N ?_;refine aC<|aO E ?_;refine aD ?_;iterate 2 refine N ?_
   refine aC ?_;exact aQ (lQ (lQ (fF (DJ (lQ (fF (aN YB (iP J E E) ⟨by rw[f1,f2],Af _ _⟩)))))));refine Θ ?_;refine ν ?_;rotate_left;refine Θ ?_;refine ν ?_;refine N ?_;iterate 2 refine bP ?_
   refine ι ?_;rotate_left;refine qg (jR (b:=false) _ _ J E E (Xf (λh=>q1 (Fx.1 (by have h:((t[i].toNat:Z):Int)=46:=h;show _=46;omega)))) _) ?_;refine N ?_;iterate 2 refine bP ?_
   refine ι ?_;refine N ?_;iterate 2 refine bP ?_
   refine ι ?_;rotate_left;all_goals
    refine N ?_;iterate 5 refine bP ?_
    refine ι ?_;refine N ?_;refine aC<|aO E ?_;refine aD ?_;iterate 2 refine N ?_
    refine aC ?_;exact aQ (lQ (lQ (fF (DJ (lQ (fF (aN YB (iP J E E) ⟨by rw[f1,f2],Af _ _⟩)))))))
 obtain rfl:i=t.length:=by have:=Xg hc;omega
 obtain⟨e1,e2,e3⟩:=aLN hsc hg;rw[e1] at b5 hk;refine bL (dQ ?_);refine aH<|aD<|qa ?_;by_cases hal:wh++fr=[]
 .obtain⟨f1,f2⟩:=FB (xR hp (Aa (by rw[(List.append_eq_nil_iff.1 hal).1];rfl)));refine qg (gN (b:=true) (t:=[]) _ _ J E J (Xt hal) _) ?_;refine aC<|aS E ?_;refine aD ?_;iterate 2 refine N ?_
  refine aC ?_;exact aQ (fF (aN YB (iP J E E) ⟨by rw[f1,f2],Af _ _⟩))
 refine qg (gN (b:=false) (t:=[]) _ _ J E J (Xf hal) _) ?_;refine aC<|aO E ?_;refine aR ?_;have hwne:wh≠[]:=λe=>by
  rcases e3 with ⟨_,h,_⟩|⟨_,_,h,_⟩
  .exact hal (by rw[e,h];rfl)
  exact h e
 obtain⟨c1,tw,rfl⟩:=List.exists_cons_of_ne_nil hwne;obtain⟨c0,r0,rfl⟩:∃c0 r0,l=c0::r0:=by
  cases l with
  |nil=>have h0:t=[]:=et;rw[h0] at e1;cases e1
  |cons c0 r0=>exact⟨c0,r0,rfl⟩
 have hF:=aJY hp e2 (λh=>by
  rcases e3 with ⟨_,_,h3⟩|⟨_,_,_,h3⟩
  .rw[h3] at h;cases h
  exact h3)
 have hall:((c1::tw)++fr).all qA=true:=Cj.2 e2;obtain⟨al,eal⟩:∃al,al=(c1::tw)++fr:=⟨_,rfl⟩;have hln:al.length=(c1::tw).length+fr.length:=by rw[eal,Ag]
 rw[<-eal] at b5 hk hall;refine aD<|qa ?_;refine qg (jS _ J E _) ?_;refine N ?_;refine aC<|lS (λA V=>V=W/\A.tmps.size=116/\A.defers=[]/\A.eval (.tmp 0)=tV (c0::r0)/\A.eval (.tmp 5)=tV al/\A.eval (.tmp 8)=γ ζ ((c1::tw).length:Z)) ?_ (λC V hI=>?_)
 .refine aD<|qa ?_;rcases e3 with ⟨eP,ef,_⟩|⟨eP,_⟩
  .refine qg (fG (b:=false) _ _ J E E (Xf (by rw[eP];decide)) _) ?_;refine aC<|aO E ?_;exact iE ⟨J,J,YA,YB,E,E,Ae E (by rw[eal,ef,Be])⟩
  refine qg (fG (b:=true) _ _ J E E (Xt (by rw[eP];omega)) _) ?_;refine aC<|aS E ?_;refine aI ?_;iterate 2 refine N ?_
  exact kL ⟨J,J,YA,YB,E,E,Ae E (by rw[eP])⟩
 clear b0 b4 b5 b6 b7 hs hd;obtain⟨rfl,hs,hd,b0,b5,b8⟩:=hI;by_cases hbad:1<(c1::tw).length/\c1=48
 .obtain⟨f1,f2⟩:=FB (by rw[hF,Xt hbad.1,Xt hbad.2];rfl);refine aH<|aD (aG ?_);refine N ?_;refine ψ ?_;iterate 2 refine N ?_
  refine qg (lK (l:=al) (k:=0) _ _ J E E J (by rw[hln];omega) _) ?_;refine qg (jR (b:=true) _ _ J E E (by simp[eal,hbad.2]) _) ?_;refine ν ?_;refine aC<|aS E ?_;refine aD ?_;iterate 2 refine N ?_
  refine aC ?_;exact aQ (fF (aN YB (iP J E E) ⟨by rw[f1,f2],Af _ _⟩))
 have FV:VN (c0::r0)=(if fO (wY (c0::r0)) then 0 else wY (c0::r0))/\VG (c0::r0)=(if fO (wY (c0::r0)) then 3 else 0):=by
  unfold VN VG;rw[hF];by_cases h1:1<(c1::tw).length
  .rw[Xf (λh=>hbad ⟨h1,h⟩),Bool.and_false];exact⟨J,J⟩
  rw[Xf h1];exact⟨J,J⟩
 refine lS (λA U=>U=V/\A.tmps.size=116/\A.defers=[]/\A.eval (.tmp 0)=tV (c0::r0)/\A.eval (.tmp 5)=tV al/\A.eval (.tmp 8)=γ ζ ((c1::tw).length:Z)) ?_ (λC U hI=>?_)
 .refine aD (aG ?_);refine N ?_;by_cases h1:1<(c1::tw).length
  .refine ψ ?_;iterate 2 refine N ?_
   refine qg (lK (l:=al) (k:=0) _ _ J E E J (by rw[hln];omega) _) ?_;refine qg (jR (b:=false) _ _ J E E (Xf (λh=>hbad ⟨h1,Fx.1 (by simp only[eal,Ez,List.getElem_cons_zero] at h;show c1.toNat=48;omega)⟩)) _) ?_;refine ν ?_;refine aC<|aO E ?_;exact iE ⟨J,J,YA,YB,E,E,E⟩
  refine Θ ?_;refine N ?_;iterate 3 refine bP ?_
  refine ι ?_;refine aC<|aO E ?_;exact iE ⟨J,J,YA,YB,E,E,E⟩
 clear b0 b5 b8 hs hd;obtain⟨rfl,hs,hd,b0,b5,b8⟩:=hI;have hX:(decV al:Int)<1000000000000000000000000000000000000000000000000000000000000:=by
  have h1:decV al<10^60:=Dz (UF hall) (Ej Yc hk);have e60:(10:Z)^60=1000000000000000000000000000000000000000000000000000000000000:=by decide
  omega
 obtain⟨Y,eY⟩:∃Y,Y=cK (sS (c0::r0)) (decV al:Int):=⟨_,rfl⟩;have hY: -1000000000000000000000000000000000000000000000000000000000000<Y/\Y<1000000000000000000000000000000000000000000000000000000000000:=by rw[eY];unfold cK;split<;>omega
 obtain⟨D,eD⟩:∃D:Int,D=10^fr.length:=⟨_,rfl⟩;have hD:1<=D/\D<=1000000000000000000000000000000000000000000000000000000000000:=by
  rw[eD];refine⟨uJ Yc _,?_⟩;have h1:=aBy (x:=10) Yc (show fr.length<=60 by omega);have e:(10:Int)^60=1000000000000000000000000000000000000000000000000000000000000:=by decide
  omega
 have hDb:(10:Int)^fr.length<4294967296^50:=by
  have e:(1000000000000000000000000000000000000000000000000000000000000:Int)<4294967296^50:=by decide
  omega
 have hM:wY (c0::r0)=(Y*8589934592+D)/(D*2):=by unfold wY;rw[hp];dsimp only;rw[<-eal, <-eY,show ((10^fr.length:Z):Int)=D by rw[eD];simp]
 refine aD (aG ?_);refine gQ (Bl _) ?_;intro w1 H1 z1;refine N ?_;refine ε (ZC _ al hk hall (by rw[eal];exact List.cons_ne_nil _ _) _ _ w1 (JW H1.v0)) ?_;rintro e w2 ⟨rfl,n2,k2⟩;have B2:=gB H1.bel k2 (Xr _);refine⟨_,J,?_⟩;iterate 5 refine N ?_
 refine aC ?_;obtain⟨b,eb⟩:∃b,b=U.heap.size:=⟨_,rfl⟩;have hbW:U.heap.size<=b:=Bq eb.symm;rw[<-eb] at n2 k2 ⊢;refine lS (λA W2=>Num W2 b Y/\Below U.heap.size U W2/\A.tmps.size=116/\A.defers=[]/\A.eval (.tmp 5)=tV al/\A.eval (.tmp 8)=γ ζ ((c1::tw).length:Z)/\A.eval (.tmp 9)=φ (β ⟨b,0,none⟩)) ?_ (λC W3 hI=>?_)
 .refine aD<|qa ?_;refine qg (lK (l:=c0::r0) (k:=0) _ _ J E E J (Nat.zero_lt_succ _) _) ?_;by_cases h45:c0=45
  .refine qg (jR (b:=true) _ _ J E E (by rw[h45];rfl) _) ?_;refine aC<|aS E ?_;refine aI ?_;iterate 2 refine N ?_
   obtain⟨s2,v2,i2⟩:=tT n2;refine ε (UX b b _ _ _ w2 i2 n2 (yV O O)) ?_;rintro e w3 ⟨rfl,n3,k3⟩;refine⟨_,J,?_⟩;refine kL ⟨J,?_,gB B2 k3 hbW,YA,YB,E,E,E⟩;rw[eY,NY,Xt h45];exact n3
  refine qg (jR (b:=false) _ _ J E E (Xf (λh=>h45 (Fx.1 (by have h:((c0.toNat:Z):Int)=45:=h;show _=45;omega)))) _) ?_;refine aC<|aO E ?_;refine iE ⟨J,?_,B2,YA,YB,E,E,E⟩;rw[eY,NY,Xf h45];exact n2
 clear b0 b5 b8 hs hd n2 k2 B2 H1;obtain⟨n3,B3,hs,hd,b5,b8,b9⟩:=hI;have hb3:=n3.lt;refine aD (aG ?_);refine gQ (Bl _) ?_;intro w4 H4 z4;refine ε (pE 10 (by unfold υ;omega) w4) ?_;rintro e w5 ⟨b2,rfl,_,n5,k5⟩;refine⟨_,J,?_⟩;refine N ?_;refine qg (jS _ J E _) ?_;refine N ?_;refine qg ((kT _ _ J E E O O _).trans (by rw[show ((al.length:Z):Int)-(((c1::tw).length:Z):Int)=((fr.length:Z):Int) by omega])) ?_;refine ε (pE (fr.length:Z) (by unfold υ;omega) w5) ?_;rintro e w6 ⟨b3,rfl,_,n6,k6⟩;refine⟨_,J,?_⟩;have i6:=((JW H4.v0).below k5).below k6;refine ε (aEa _ b2 b3 10 fr.length Yc hDb O _ _ w6 i6 (n5.below k6) n6 (qV (by unfold υ;omega))) ?_;rintro e w7 ⟨rfl,n7,k7⟩;rw[<-eD] at n7;have N7:=(((n3.below H4.bel).below k5).below k6).other k7 O i6;have B7:=gB (bZ (bZ (bZ B3 H4.bel B3.size) k5 (Ap B3.size H4.bel.size)) k6 (Ap (Ap B3.size H4.bel.size) k5.size)) k7 B3.size;refine⟨_,J,?_⟩;refine N ?_;refine aC ?_;obtain⟨d,ed⟩:∃d,d=W3.heap.size:=⟨_,rfl⟩;rw[<-ed] at n7 k7 i6 ⊢;have hbd:d≠b:=O;clear H4 n3 n5 n6 k5 k6;obtain⟨s7,v7,i7⟩:=tT N7;refine aD ?_;iterate 2 refine N ?_
 refine ε (xO b b 33 Y Yc _ _ w7 i7 N7 (yV O O)) ?_;rintro e w8 ⟨rfl,N8,k8⟩;have N8:Num w8 b (Y*8589934592):=N8;have n8:=n7.other k8 hbd i7;have B8:=gB B7 k8 hbW;obtain⟨s8,v8,i8⟩:=tT N8;refine⟨_,J,?_⟩;refine aC<|aD ?_;iterate 3 refine N ?_
 refine ε (rA b b d _ D _ _ w8 i8 N8 n8 (yV O O) (yV O O)) ?_;rintro e w9 ⟨rfl,N9,k9⟩;have n9:=n8.other k9 hbd i8;have B9:=gB B8 k9 hbW;refine⟨_,J,?_⟩;refine aC<|aD<|qa ?_;refine gQ (Bl _) ?_;intro w10 H10 z10;refine N ?_;refine ε (xO _ d 1 D Yc _ _ w10 (JW H10.v0) (n9.below H10.bel) (yV O O)) ?_;rintro e w11 ⟨rfl,n11,k11⟩;have n11:Num w11 w9.heap.size (D*2):=n11;have k9':=gB H10.bel k11 (Xr _);have B11:=bZ B9 k9' B9.size;refine⟨_,J,?_⟩;refine ε (D7 b w9.heap.size _ (D*2) w11 (N9.below k9') n11 (yV O O) (yV O O) O (GU _ _ O)) ?_;rintro e w12 ⟨b8,rfl,n12,k12⟩;rw[<-hM] at n12;have B12:=bZ B11 k12 B11.size;have dM:Bd (wY (c0::r0)):=by rw[hM];exact aQW hY hD
 refine⟨_,J,?_⟩;refine N ?_;refine aC<|aH<|aD<|qa ?_;refine ε (MC b8 _ _ n12 dM) ?_;rintro e w13 ⟨rfl,rfl⟩;refine⟨_,J,?_⟩;rw[FV.1,FV.2];cases hbz:fO (wY (c0::r0)) with
 |true=>
  refine qg (tZ _ _ J E _) ?_;refine aC<|aS E ?_;refine aD ?_;iterate 2 refine N ?_
  refine aC ?_;exact aQ (fF (aN YB (iP J E E) ⟨J,by rw[eb];exact B12⟩))
 |false=>
  refine qg (tZ _ _ J E _) ?_;refine aC<|aO E ?_;refine aR<|aD<|qa ?_;refine ε (IU b8 _ _ n12 (by unfold fO at hbz;rw[Bool.or_eq_false_iff,Ik,Ik] at hbz;unfold υ;omega)) ?_;rintro e w14 ⟨rfl,rfl⟩;refine⟨_,J,?_⟩;iterate 2 refine N ?_
  refine aC ?_;exact aQ (aN YB (iP J E E) ⟨J,by rw[eb];exact B12⟩)
theorem CS(ws:θ (θ UInt8))(ao:Option Addr)(cap:Z)(w:ξ)(hr:RdS xH 1 w ao ws)(hl:ws.length<=1000000):Ξ μ 21 #[.slice ao ws.length cap] w λe w'=>∃(v:Φ),e=.returned (.tuple #[v,.bool (ω ws).isSome])/\(ω ws=none->v=.slice none 0 0)/\(∀l,ω ws=β l->Cx w w' [fU w.heap.size 3 1 v l.length (é (iF (gL l)) l.length)])/\Below w.heap.size w w':=by
 refine bC Tryz.func21 J 28 J Yd (λA hs hd hb=>?_);have b0:A.eval (.tmp 0)=κ ao ws.length cap:=hb 0 _ J;clear hb;have H:=Bl w;refine aD (aG ?_);iterate 2 refine N ?_
 refine aC<|aD<|qa ?_;refine aC<|aH<|aD ?_;iterate 3 refine N ?_
 refine aC<|aJ ?_;refine bR (λr A W=>∃(k:Z) (v:Φ),k<=ws.length/\ws.length-k<=r/\A.tmps.size=28/\A.defers=[]/\A.eval (.tmp 4)=v/\A.eval (.tmp 9)=κ ao ws.length cap/\A.eval (.tmp 10)=γ ζ (ws.length:Z)/\A.eval (.tmp 11)=γ ζ (k:Z)/\aFp ws k/\Cx w W [fU w.heap.size 3 1 v k (é (iF (gL (ws.map jL))) k)]) ws.length
  ⟨0,κ none 0 0,Xz _,O,YA,YB,E,E,E,E,λj h=>ρ h (Fv j),H.add (Af _ _) (fU w.heap.size 3 1 (κ none 0 0) 0 _) (Am _ _ _ _) (λj e=>ρ e (λe=>nomatch e))⟩ (λr B W hI=>?_)
 clear b0 hs hd H;obtain⟨k,v,hk,hkr,hs,hd,b4,b9,b10,b11,hok,H⟩:=hI;refine aD (aG ?_);refine N ?_;refine aC<|aH<|fB (λhc=>?_) (λhc=>?_)
 .have hin:k<ws.length:=by have:=Xu hc;omega
  obtain⟨b,o,rfl,hcell⟩:=hr O;have hcell:=hcell k ws[k] (Bf hin) 0 O;refine aR<|aH (aJ ?_);refine aD<|qg (dD (i:=k) _ _ _ _ rfl SlcK.out SizK.out E E rfl hin _) ?_;refine qg (gP (v:=tV ws[k]) OneK.out (aP hcell H.bel) J E) ?_;refine N ?_;refine aC<|aD<|qa ?_;refine ε (aDr ws[k] W) ?_;rintro e w1 ⟨rfl,k1⟩;refine⟨_,J,?_⟩;replace H:=H.call k1;iterate 5 refine N ?_
  refine aC<|aH<|aD ?_;iterate 2 refine N ?_
  refine aC<|fB (λhe=>?_) (λhe=>?_)
  .have h0:lV ws[k]≠0:=by simpa using he
   have e0:=WV (Bf hin) h0;refine aD ?_;iterate 2 refine N ?_
   refine aC ?_;exact aQ (fF (lQ (fF (DJ (lQ (fF (aN YB (iP J E E) ⟨_,by rw[e0];rfl,λ_=>rfl,λl h=>by rw[e0] at h;exact ρ h (by simp),H.bel⟩)))))))
  have h0:lV ws[k]=0:=by simpa using he
  refine aR<|aI ?_;iterate 2 refine N ?_
  refine bI J Yw (λK hK=>qM (v:=γ ζ (jL ws[k])) SlcK.out OneK.out Zer1.out J J J E (λV1 m1 k2 z9=>hK _ _ ?_));replace H:=H.call k2;refine OE (bytes:=8) H.a0 (zT m1) (λu hu=>by rw[Ct.1 hu];rfl) Ym O ?_;clear H;intro v' w3 H;refine N ?_;refine fK<|aI ?_;repeat refine N ?_
  exact aU ⟨ws.length-(k+1),O,k+1,v',O,O,YA,YB,E,E,E,Ae E YC,λj hj t ht=>by
   by_cases e:j=k
   .rw[e,Bf hin] at ht;cases ht;exact h0
   .exact hok j O t ht,by
   have e1:é (iF (gL (ws.map jL))) k++[γ ζ (jL ws[k])]=é (iF (gL (ws.map jL))) (k+1):=by unfold é;rw[Hw,Cb,List.map_singleton];congr 2;unfold iF gL;rw[Bh,Bu,Bf hin];rfl
   rw[<-e1];exact H⟩
 obtain rfl:k=ws.length:=by have:=Xg hc;omega
 refine bL (dQ ?_);refine aD ?_;iterate 3 refine N ?_
 refine aC ?_;have e0:=aBo hok;exact aQ (aN YB (iP J E E) ⟨_,by rw[e0];rfl,(λh=>by rw[e0] at h;cases h),λl h=>by rw[e0] at h;cases h;rw[Ao];exact H,H.bel⟩)
variable{n:Z}
theorem aBW{w':ξ}{av v:Φ}{l base:Z}{f:Z->Int}{bs:θ UInt8}(hs:Sl w av l f)(ho:w.ownsRow base 5 1 v n (mJ bs))(hn:n=0->v.ownBlock=none)(hg:w.grownBy w' v.ownBlock):Sl w' av l f:=by
 rcases hs with hs|⟨b,cap,hv,h1,h2,h3,h4⟩
 .exact Aa hs
 refine Ab ⟨b,cap,hv,h1,h2,Dz h3 hg.size,?_⟩;intro k hk;have hne:v.ownBlock≠β b\/v.ownBlock=none:=by
  rcases Bj n with h0|h0
  .exact Ab (hn h0)
  left;intro hb;have hlen:bs.length=n:=by have:=ho.1;rw[aET] at this;omega
  have hc:=ho.cells hb 0 (γ .u8 ((bs[0]'Yo).toNat:Int)) (by unfold mJ;rw[Bu,Bf O];rfl);rw[Lib.add_plain] at hc;have h5:=h4 0 O;rw[show (0:Z)+0=0 from rfl] at hc;rw[hc] at h5;cases h5
 have hbk:w'.heap[b]?=w.heap[b]?:=hg.block b h3 (by
  rcases hne with h|h
  .exact λe=>h e.symm
  rw[h];simp)
 exact (World.cell?_of_block (w:=w) (a:=⟨b,k,none⟩) hbk).trans (h4 k hk)
def tC(P:θ UInt8)(k t p:Z):UInt8:=if p<t\/k-t<p then P.getD p 0 else P.getD (k-p) 0
variable{P:θ UInt8}
theorem aMh{k t:Z}(h:t<k-t):tC P k t t=P.getD (k-t) 0/\tC P k t (k-t)=P.getD t 0:=by unfold tC;rw[δ O,δ O,show k-(k-t)=t by omega];exact⟨J,J⟩
theorem aFZ{k t p:Z}(h:t<k-t)(hp:p<=k):tC P k (t+1) p=if p=k-t then P.getD (k-t) 0 else if p=t then P.getD t 0 else tC P k t p:=by
 unfold tC;split
 .split
  .rename_i h1 h2;rw[h2]
  split
  .rename_i h1 h2 h3;rw[h3]
  rename_i h1 h2 h3;rw[η O]
 rename_i h1;rw[δ O,δ O,δ O]
theorem aIZ{k t p:Z}(h:¬t<k-t)(ht:2*t<=k+1)(hp:p<=k):tC P k t p=P.getD p 0:=by
 unfold tC;split
 .rfl
 congr 1;omega
def uA(B:Z)(u:Z):θ UInt8:=if _h:u<B\/B<2 then [jU u] else jU (u%B)::uA B (u/B)
termination_by u
decreasing_by exact Nat.div_lt_self O O
variable{B:Z}
theorem X8{u:Z}(h:u<B):uA B u=[jU u]:=by rw[uA,dif_pos (Aa h)]
theorem OQ{u:Z}(hB:2<=B)(h:B<=u):uA B u=jU (u%B)::uA B (u/B):=by rw[uA,dif_neg O]
theorem aPE(u:Z):(uA 16 u).reverse=oK u:=by
 induction u using Nat.strongRecOn with
 |_ u ih=>
  by_cases c:u<16
  .rw[X8 c,zJ c];rfl
  rw[OQ O O,IL O,List.reverse_cons,ih (u/16) O]
theorem NJ{d:Z}(h:d<10):jU d=UInt8.ofNat (48+d):=by unfold jU;rw[η h]
theorem aPD(u:Z):(uA 10 u).reverse=à u:=by
 induction u using Nat.strongRecOn with
 |_ u ih=>
  by_cases c:u<10
  .rw[X8 c,à,dif_pos c,NJ c];rfl
  rw[OQ O O,à,dif_neg c,List.reverse_cons,ih (u/10) O,NJ O]
def RvI(B X:Z)(ds:θ UInt8)(y:Z):Prop:=(0<y/\uA B X=ds++uA B y/\y*2^ds.length<=X)\/(y=0/\ds=uA B X)
variable{X:Z}{ds:θ UInt8}
theorem RvI.next{y:Z}(hB:2<=B)(h:RvI B X ds y)(hy:0<y):RvI B X (ds++[jU (y%B)]) (y/B):=by
 rcases h with ⟨_,h1,h2⟩|⟨h,_⟩
 .by_cases c:y<B
  .refine Ab ⟨Gu c,?_⟩;rw[h1,X8 c,Ht c]
  refine Aa ⟨Nat.div_pos O O,?_,?_⟩
  .rw[h1,OQ hB O,Ce];rfl
  rw[Ag];show y/B*2^(ds.length+1)<=X;have e1:y/B<=y/2:=Nat.div_le_div_left hB O;have e2:y/2*2<=y:=Nat.div_mul_le_self y 2
  calc y/B*2^(ds.length+1)<=y/2*2^(ds.length+1):=Io _ e1
   _=y/2*2*2^ds.length:=by rw[Cg,Dk (2^ds.length) 2,Cu]
   _<=y*2^ds.length:=Io _ e2
   _<=X:=h2
 omega
theorem RvI.len{y K:Z}(h:RvI B X ds y)(hy:0<y)(hX:X<2^K):ds.length<K:=by
 rcases h with ⟨_,_,h2⟩|⟨h,_⟩
 .rcases Ar ds.length K with h|h
  .exact h
  have:2^K<=2^ds.length:=Ej Yc h;have:=Nat.le_mul_of_pos_left (2^ds.length) hy;omega
 omega
theorem aSs(B u:Z):uA B u≠[]:=by rw[uA];split<;>exact λh=>nomatch h
section
variable {f:χ->Φ} {o:å}
theorem aIA(x:χ)(ho:o.op=.binOp .eql 126 x (.const (.pointer none)) 126){a:Addr}(hx:f x=.pointer (β a))(w:ξ)(hk:∀v,f (.const v)=v:=by exact λ_=>rfl):(π f o).run μ w=.ok (.value (.bool false)) w:=by unfold π;rw[ho];dsimp only;rw[hx,hk];go_simp
theorem aIz(x:χ)(ho:o.op=.convert 3 168 x)(hx:f x=.int .i64 (n:Int))(hn:n<4294967296)(w:ξ):(π f o).run μ w=.ok (.value (.int .u32 (n:Int))) w:=by unfold π;rw[ho];dsimp only;rw[hx];go_simp;simp[IntKind.wrap,IntKind.bits,IntKind.signed];omega
theorem TE{b:Bool}(x y:χ)(ho:o.op=.binOp .lss 168 x y 168){u v:Int}(hx:f x=.int .u32 u)(hy:f y=.int .u32 v)(hb:decide (u<v)=b)(w:ξ):(π f o).run μ w=.ok (.value (.bool b)) w:=by subst hb;unfold π;rw[ho];dsimp only;rw[hx,hy];go_simp
theorem SS(x y:χ)(ho:o.op=.binOp .add 168 x y 168){a:Z}(hx:f x=.int .u32 (a:Int))(hy:f y=.int .u32 (b:Int))(h:a+b<4294967296)(w:ξ):(π f o).run μ w=.ok (.value (.int .u32 ((a+b:Z):Int))) w:=by unfold π;rw[ho];dsimp only;rw[hx,hy];go_simp;simp[IntKind.wrap,IntKind.bits,IntKind.signed];omega
theorem aFQ(x y:χ)(ho:o.op=.binOp .sub 168 x y 168){a:Z}(hx:f x=.int .u32 (a:Int))(hy:f y=.int .u32 (b:Int))(h:b<=a)(h2:a<4294967296)(w:ξ):(π f o).run μ w=.ok (.value (.int .u32 ((a-b:Z):Int))) w:=by unfold π;rw[ho];dsimp only;rw[hx,hy];go_simp;simp[IntKind.wrap,IntKind.bits,IntKind.signed];omega
theorem XG(x:χ)(ho:o.op=.convert 168 5 x)(hx:f x=.int .u32 (n:Int))(hn:n<256)(w:ξ):(π f o).run μ w=.ok (.value (.int .u8 (n:Int))) w:=by unfold π;rw[ho];dsimp only;rw[hx];go_simp;simp[IntKind.wrap,IntKind.bits,IntKind.signed];omega
end
instance iRdB_1:FldK μ 141 0 0:=⟨λho hx w=>Yg⟩
instance iRdB_2:FldK μ 141 1 1:=⟨λho hx w=>Yg⟩
instance iRdB_3:OneK μ 139:=⟨⟨λw=>by go_simp,λw=>Yh⟩⟩
instance iRdB_4:LenK μ 139:=⟨λho hx w=>by unfold π;rw[ho];dsimp only;go_simp⟩
instance iRdB_8:Zer1 μ 5 (.int .u8 0):=⟨λw=>by kernel_rfl,rfl⟩
theorem XR(B:Z)(hB:2<=B/\B<=16)(b X:Z)(w:ξ)(hx:Num w b (X:Z))(dx:Bd (X:Z)):Ξ μ 62 #[.pointer (β ⟨b,0,none⟩),.int .i64 (B:Z)] w λe w'=>e=.returned (tV (uA B X).reverse)/\Below w.heap.size w w':=by
 obtain⟨xn,xv,n,fa,hx1,hx2,hx3,hx4,hx5,hx6⟩:=hx;have vb:=dP hx3;have hvX:val fa n=(X:Int):=by
  cases xn
  .exact hx5.symm
  have e:((X:Z):Int)= -val fa n:=hx5;omega
 have hxn:xn=false:=by
  cases xn
  .rfl
  have e:((X:Z):Int)= -val fa n:=hx5;by_cases h0:n=0
  .exact ρ (hx6 h0) Yc
  have:=qL hx3 hx4 h0;omega
 subst hxn;have hX2:X<2^3200:=by
  unfold Bd at dx;rw[show ã ((X:Z):Int)=(X:Int) by unfold ã;omega] at dx;have e:((2^3200:Z):Int)=4294967296^100:=by decide+kernel
  omega
 have dX:(X:Int)<4294967296^100:=by
  have e:((2^3200:Z):Int)=4294967296^100:=by decide+kernel
  omega
 have hn:=jJ hx3 hx4 (k:=100) (by rw[hvX];exact dX);obtain⟨ao,ca,rfl,hnc,_,_⟩:=hx2.view;refine bC Tryz.func62 J 83 J Yd (λA hs hd hb=>?_);have b0:A.eval (.tmp 0)=φ (β ⟨b,0,none⟩):=hb 0 _ J;have b1:A.eval (.tmp 1)=γ ζ (B:Z):=hb 1 _ J;clear hb;refine aD (aG ?_);refine N ?_;refine aC<|aH<|aD<|qa ?_;refine qg (aIA _ J E _) ?_;refine aC<|aO E ?_;refine aR<|aH<|aD ?_;iterate 3 refine N ?_
 refine qg (gP (v:=κ ao n ca) OneK.out hx1.cell1 J E) ?_;refine N ?_;by_cases h0:n=0
 .subst h0;obtain rfl:X=0:=by have:val fa 0=0:=rfl;omega
  refine qg (bK (b:=true) _ _ J E E Yc _) ?_;refine aC<|aS E ?_;refine aD<|qa ?_;refine aC ?_;exact aQ (fF (aN YB (bS J E) ⟨by rw[X8 O];rfl,Af _ _⟩))
 have hX0:0<X:=by have:=qL hx3 hx4 h0;omega
 refine Θ ?_;refine aC<|aO E ?_;refine aR<|aD<|qa ?_;refine aC<|lS (λA W=>∃v5:Φ,A.tmps.size=83/\A.defers=[]/\A.eval (.tmp 0)=φ (β ⟨b,0,none⟩)/\A.eval (.tmp 5)=v5/\(uA B X).length<=3200/\Cx w W [fU w.heap.size 5 1 v5 (uA B X).length (mJ (uA B X))]) ?_ (λC W2 hI=>?_)
 .refine aD ?_;iterate 3 refine N ?_
  refine qg (gP (v:=κ ao n ca) OneK.out hx1.cell1 J E) ?_;refine ε (uM _ n fa O w hx2) ?_;rintro e w1 ⟨v6,rfl,s1,k1⟩;refine⟨_,J,?_⟩;refine N ?_;refine aC ?_;have H:Cx w w1 [fU w.heap.size 5 1 (κ none 0 0) 0 (mJ [])]:=(Bl w).add k1 (fU w.heap.size 5 1 (κ none 0 0) 0 (mJ [])) (Am _ _ _ _) (λ_ e=>nomatch e);refine aJ ?_;refine bR (λr A W=>∃(l:Z) (g:Z->Int) (v6 v5:Φ) (ds:θ UInt8) (y:Z),y<=r/\val g l=(y:Int)/\y<=X/\Sl W v6 l g/\Wd l g/\Nm l g/\RvI B X ds y/\A.tmps.size=83/\A.defers=[]/\A.eval (.tmp 0)=φ (β ⟨b,0,none⟩)/\A.eval (.tmp 1)=γ ζ (B:Z)/\A.eval (.tmp 5)=v5/\A.eval (.tmp 6)=v6/\(ds.length=0->v5=κ none 0 0)/\ds.length<=3200/\Cx w W [fU w.heap.size 5 1 v5 ds.length (mJ ds)]) X
   ⟨n,fa,v6,κ none 0 0,[],X,Xr _,hvX,Xr _,s1,hx3,hx4,Aa ⟨hX0,rfl,by rw[Au,He,Cs];exact Xr _⟩,YA,YB,E,E,E,E,λ_=>rfl,Xz _,H⟩ (λr A2 W hI=>?_)
  clear b0 b1 hs hd H s1;obtain⟨l,g,v6,v5,ds,y,hyr,hy,hyX,sl,wd,nm,rv,hs,hd,b0,b1,b5,b6,hnil,h32,H⟩:=hI;have hl:=jJ wd nm (k:=100) (by rw[hy];omega);obtain⟨a6,c6,rfl,_,_,_⟩:=sl.view;refine aH<|aD (aG ?_);iterate 2 refine N ?_
  by_cases hl0:l=0
  .subst hl0;obtain rfl:y=0:=by have:val g 0=0:=rfl;omega
   obtain rfl:ds=uA B X:=by
    rcases rv with ⟨h,_⟩|⟨_,h⟩
    .omega
    exact h
   refine qg (bW (b:=false) _ _ J E E Yc _) ?_;refine aC<|aO E ?_;exact bL (Q8 ⟨J,v5,YA,YB,E,E,h32,H⟩)
  have hy0:0<y:=by have:=qL wd nm hl0;omega
  have dl:=rv.len hy0 hX2;have nx:=rv.next hB.1 hy0;obtain⟨m,em⟩:∃m,m=y%B:=⟨_,rfl⟩;have hm:m<B:=by rw[em];exact qN _ O
  rw[<-em] at nx;refine ψ ?_;refine aC<|aS E ?_;refine aR<|aJ<|aD<|qa ?_;refine aC<|aD ?_;iterate 2 refine N ?_
  refine qg (aIz (n:=B) _ J E O _) ?_;refine ε (XM _ l g (B:Z) O O O W sl wd) ?_;rintro e w2 ⟨v7,l7,g7,rfl,s7,d7,n7,e7,k7⟩;replace H:=H.call k7;rw[hy,show ((y:Z):Int)%((B:Z):Int)=((m:Z):Int) by rw[em];omega];refine⟨î #[v7,γ .u32 ((m:Z):Int)],J,?_⟩;have e7:val g7 l7=((y/B:Z):Int):=by rw[e7,hy];omega
  iterate 5 refine N ?_
  refine aC<|aD<|qa ?_;by_cases h10:m<10;refine qg (TE (b:=true) _ _ J E E (Xt O) _) ?_;refine aC<|aS E ?_;refine aI ?_;iterate 2 refine N ?_
  refine qg (SS (a:=48) (b:=m) _ _ J E E O _) ?_;refine qg (v:=γ .u8 ((jU m).toNat:Z)) ((XG (n:=48+m) _ J E O _).trans (by rw[show (jU m).toNat=48+m by rw[NJ h10,UInt8.toNat_ofNat'];omega])) ?_;rotate_left;refine qg (TE (b:=false) _ _ J E E (Xf O) _) ?_;refine aC<|aO E ?_;refine aI ?_;iterate 2 refine N ?_
  refine qg (SS (a:=97) (b:=m) _ _ J E E O _) ?_;refine qg (aFQ (a:=97+m) (b:=10) _ _ J E E O O _) ?_;refine qg (v:=γ .u8 ((jU m).toNat:Z)) ((XG (n:=97+m-10) _ J E O _).trans (by rw[show (jU m).toNat=97+m-10 by unfold jU;rw[δ h10,UInt8.toNat_ofNat'];omega])) ?_;rotate_left;all_goals
   refine bI J Yw (λK hK=>qM (v:=γ .u8 ((jU m).toNat:Z)) SlcK.out OneK.out Zer1.out J J J E (λV1 m1 k2 z9=>hK _ _ ?_));replace H:=H.call k2;have s8:=s7.below k2;have ho:ê _ _ _ _ _ _ _:=H.o0;refine bI J Yw (λK hK=>rQ (bytes:=1) J inferInstance H.size E E ho (zT (u:=γ .u8 ((jU m).toNat:Z)) m1) (λu hu=>by rw[Ct.1 hu];rfl) Ym O ?_);intro v9 w9 h9 g9 f9;have s9:=aBW s8 ho (λe=>by rw[hnil e];rfl) g9;replace H:=H.a0.put (y:=fU w.heap.size 5 1 v9 (ds.length+1) (mJ ds++[ò .u8 ((jU m).toNat:Z)])) ⟨g9.os,g9.tape,g9.output,g9.size,λj h5 h6=>g9.block j h5 (λe=>h6 e.symm),h9,f9⟩;refine hK _ _ ?_;clear hK K;refine N ?_;refine I7 ⟨y/B,Dz (Nat.div_lt_self hy0 O) hyr,l7,g7,v7,v9,ds++[jU m],y/B,Xr _,e7,Ap (Nat.div_le_self _ _) hyX,s9,d7,n7,nx,YA,YB,E,E,E,E,(λe=>by rw[Ag] at e;cases e),(by rw[Ag];exact dl),?_⟩;rw[Ag,CE];exact H
 clear b0 b1 hs hd;obtain⟨v5,hs,hd,b0,b5,h32,H⟩:=hI;obtain⟨P,eP⟩:∃P,P=(uA B X).reverse:=⟨_,rfl⟩;have hlen:(uA B X).length=P.length:=by rw[eP,List.length_reverse]
 have hP0:0<P.length:=by rw[<-hlen];exact List.length_pos_iff.2 (aSs B X)
 obtain⟨k,ek⟩:∃k,P.length=k+1:=⟨P.length-1,O⟩;have hR:∀p,p<=k->(uA B X).getD p 0=P.getD (k-p) 0:=λp hp=>by
  have e:uA B X=P.reverse:=by rw[eP,List.reverse_reverse]
  rw[e,Bh,Bh,List.getElem?_reverse O];congr 3;omega
 rw[<-eP];rw[hlen,ek] at H;have hrow:mJ (uA B X)=é (λp=>γ .u8 ((tC P k 0 p).toNat:Z)) (k+1):=by unfold mJ é;refine List.ext_getElem (by rw[Ao,Ao,Ck];omega) (λp h1 h2=>?_);rw[Ao] at h1;rw[List.getElem_map,List.getElem_map,List.getElem_range];have:=hR p O;rw[Bh,Bf h1] at this;unfold tC;rw[δ O, <-this];rfl
 rw[hrow] at H;obtain⟨r,cap,rfl,_,m5⟩:=Vh.of_owns O (show ê _ _ _ _ _ _ _ from H.o0);replace H:Cx w W2 [τ 5 r (k+1) cap (λp=>γ .u8 ((tC P k 0 p).toNat:Z))]:=H.wk (λ_=>m5) (λj e=>by rw[show j=r from e];rfl);refine aH<|aD (aG ?_);iterate 3 refine N ?_
 refine qg (gP (v:=Δ false) OneK.out (aP hx1.cell0 H.bel) J E) ?_;refine aC<|aO E ?_;refine aR<|aH<|aD ?_;iterate 2 refine N ?_
 refine qg ((kT _ _ J E E O O _).trans (by rw[show ((k+1:Z):Int)-1=((k-0:Z):Int) by omega])) ?_;iterate 2 refine N ?_
 refine aC<|aJ ?_;refine bR (λq A W=>∃t:Z,2*t<=k+1/\k+1-t<=q/\A.tmps.size=83/\A.defers=[]/\A.eval (.tmp 5)=κ (β ⟨r,0,none⟩) (k+1) cap/\A.eval (.tmp 8)=γ ζ (t:Z)/\A.eval (.tmp 9)=γ ζ ((k:Int)-(t:Int))/\Cx w W [τ 5 r (k+1) cap (λp=>γ .u8 ((tC P k t p).toNat:Z))]) (k+1)
  ⟨0,O,O,YA,YB,E,E,Ae E (by congr 1),H⟩ (λq A2 W hI=>?_)
 clear b0 b5 hs hd H m5;obtain⟨t,ht,htq,hs,hd,b5,b8,b9,H⟩:=hI;refine aH<|aD (aG ?_);iterate 2 refine N ?_
 refine N ?_;refine aC<|fB (λhc=>?_) (λhc=>?_)
 .have htk:t<k-t:=by have:=Xu hc;omega
  obtain⟨u1,u2⟩:=aMh (P:=P) htk;refine aR<|aH (aJ ?_);refine aD ?_;iterate 2 refine N ?_
  refine qg (dD (i:=t) _ _ _ _ J SlcK.out SizK.out E E J O _) ?_;refine qg (aT (v:=γ .u8 ((P.getD (k-t) 0).toNat:Z)) _ _ J OneK.out E H.v0 O (by rw[show 0+t*1=t by omega,u1])) ?_;refine N ?_;refine aC<|aD ?_;iterate 4 refine N ?_
  refine qg (dD (i:=k-t) _ _ _ _ J SlcK.out SizK.out E E O O _) ?_;refine qg (aT (v:=γ .u8 ((P.getD t 0).toNat:Z)) _ _ J OneK.out E H.v0 O (by rw[show 0+(k-t)*1=k-t by omega,u2])) ?_;refine qg (dD (i:=t) _ _ _ _ J SlcK.out SizK.out E E J O _) ?_;refine kX H.a0 (q:=0+t*1) (u:=γ .u8 ((P.getD t 0).toNat:Z)) (g':=stW (λp=>γ .u8 ((tC P k t p).toNat:Z)) t (γ .u8 ((P.getD t 0).toNat:Z))) (λj _=>by rw[show 0+t*1=t by omega]) ?_;clear H;intro w3 H z3;refine aC<|aI ?_;iterate 3 refine N ?_
  refine qg (dD (i:=k-t) _ _ _ _ J SlcK.out SizK.out E E O O _) ?_;refine kX H.a0 (q:=0+(k-t)*1) (u:=γ .u8 ((P.getD (k-t) 0).toNat:Z)) (g':=λp=>γ .u8 ((tC P k (t+1) p).toNat:Z)) (λj hj=>by
   rw[show 0+(k-t)*1=k-t by omega,aFZ htk O];unfold stW;by_cases e1:j=k-t
   .rw[η e1,η e1]
   rw[δ e1,δ e1];by_cases e2:j=t
   .rw[η e2,η e2]
   rw[δ e2,δ e2]) ?_
  clear H;intro w4 H z4;refine fK<|aI ?_;repeat refine N ?_
  exact aU ⟨k-t,O,t+1,O,O,YA,YB,E,Ae E (by congr 1),Ae E (by congr 1;omega),H⟩
 have htk:¬t<k-t:=by have:=Xg hc;omega
 refine bL (dQ ?_);refine aD<|qa ?_;refine qg (aEA (l:=P) _ J (Ae E (by rw[ek])) (λp hp=>by have:=H.v0.cell (i:=p) O;rw[Ah,this,aIZ htk ht O,Bh,Bf hp];rfl)) ?_;refine N ?_;refine aC ?_;exact aQ (aN YB (bS J E) ⟨J,H.bel⟩)
theorem aBX(h:X<=9223372036854775807):Bd (X:Z):=by
 unfold Bd;rw[show ã ((X:Z):Int)=(X:Int) by unfold ã;omega];have e:(9223372036854775808:Int)<=4294967296^100:=by decide+kernel
 omega
theorem MU(b X:Z)(w:ξ)(hx:Num w b (X:Z))(dx:Bd (X:Z)):Ξ μ 63 #[.pointer (β ⟨b,0,none⟩)] w λe w'=>e=.returned (tV (à X))/\Below w.heap.size w w':=by refine bC Tryz.func63 rfl 5 rfl Yd (λA hs hd hb=>?_);have b0:A.eval (.tmp 0)=φ (β ⟨b,0,none⟩):=hb 0 _ J;clear hb;refine aD (aG ?_);refine N ?_;refine aC<|aD<|qa ?_;refine ε (XR 10 O b X w hx dx) ?_;rintro e w1 ⟨rfl,k1⟩;rw[aPD];refine⟨_,J,?_⟩;refine N ?_;refine aC ?_;exact aQ (aN YB (bS J E) ⟨J,k1⟩)
theorem yB(n:Z)(hn:n<=9223372036854775807)(w:ξ):Ξ μ 26 #[.int .i64 (n:Z)] w λe w'=>e=.returned (tV (itoa (n:Z)))/\Below w.heap.size w w':=by refine bC Tryz.func26 rfl 6 rfl Yd (λA hs hd hb=>?_);have b0:A.eval (.tmp 0)=γ ζ (n:Z):=hb 0 _ J;clear hb;refine aD (aG ?_);refine N ?_;refine aC<|aD<|qa ?_;refine ε (jG (n:Z) (by unfold υ;omega) w) ?_;rintro e w1 ⟨b,rfl,_,hx,k1⟩;refine⟨_,J,?_⟩;refine ε (MU b n w1 hx (aBX hn)) ?_;rintro e w2 ⟨rfl,k2⟩;refine⟨_,J,?_⟩;refine N ?_;refine aC ?_;exact aQ (aN YB (bS J E) ⟨by rw[show itoa ((n:Z):Int)=à n by unfold itoa;rw[δ O];rfl],k1.trans (k2.mono k1.size)⟩)
theorem aMb(m:Z):m*10^32/4294967296=m/4294967296*10^32+jZ (m%4294967296) 32/\jZ (m%4294967296) 32<10^32:=by
 unfold jZ;obtain⟨T,eT⟩:∃T:Z,T=10^32:=⟨_,rfl⟩;rw[<-eT];have hT:0<T:=by rw[eT];exact Nat.pow_pos Yc
 have h1:m=m/4294967296*4294967296+m%4294967296:=O;have h2:m*T=4294967296*(m/4294967296*T)+m%4294967296*T:=by
  have:m*T=(m/4294967296*4294967296+m%4294967296)*T:=by rw[<-h1]
  rw[this,iN,Nat.mul_right_comm,Dk (m/4294967296*T)]
 refine⟨?_,?_⟩
 .rw[h2,Nat.mul_add_div Yc]
 rw[Ia Yc,Dk T];exact Nat.mul_lt_mul_of_pos_right (qN _ Yc) hT
theorem aKc(R:Z)(hR:R<4294967296):∃(Q:θ UInt8) (r:Z),jA 32 (jZ R 32)=Q++Ψ r 48/\r<=32/\((R=0/\Q=[])\/∃(Q':θ UInt8) (c:UInt8) (i:Z),Q=Q'++[c]/\c≠48/\i<=31/\â R i≠0/\â R (i+1)=0/\Q=jA (i+1) (jZ R (i+1))):=by
 have e0:â R 0=R:=by unfold â;rw[He,Cs];exact Ht hR
 rcases Bj R with h|h
 .refine⟨[],32,?_,Xr _,Aa ⟨h,J⟩⟩;have h2:=(J9 R 0 (by rw[e0];exact h) 32).2;rw[Ah] at h2;exact h2
 obtain⟨i,hi,h1,h2⟩:∃i,i<=31/\â R i≠0/\â R (i+1)=0:=by
  rcases Classical.em (∃i,i<=31/\â R i≠0/\â R (i+1)=0) with h3|h3
  .exact h3
  exfalso;have hall:∀i,i<=32->â R i≠0:=by
   intro i;induction i with
   |zero=>intro _;rw[e0];omega
   |succ i ih=>intro hi h4;exact h3 ⟨i,O,ih O,h4⟩
  exact hall 32 (Xr _) (aAy R)
 refine⟨jA (i+1) (jZ R (i+1)),31-i,?_,O,Ab ⟨jA i (jZ R i),PV (â R i*10/4294967296),i,JE R i,aSZ R i h1 h2,hi,h1,h2,J⟩⟩;have h3:=(J9 R (i+1) h2 (31-i)).2;rw[show i+1+(31-i)=32 by omega] at h3;exact h3
section
variable {f:χ->Φ} {o:å}
variable{p q:θ UInt8}
theorem XI(x z:χ)(ho:o.op=.slice 9 x none (β z) none){b:Int}(hx:f x=tV (p++q))(hz:f z=.int .i64 b)(hb:b=(p.length:Z))(w:ξ):(π f o).run μ w=.ok (.value (tV p)) w:=by
 subst hb;have h2:((p.length:Z):Int)<=(((p++q).length:Z):Int):=by rw[Ag];omega
 unfold π;rw[ho];simp only[Cc,Dx];rw[hx,hz];go_simp;rw[η O];refine æ (λs=>Result.ok (Next.value (Value.string s)) w) (wJ ?_);rw[Dy,Dy,Lib.extract_data];simp
theorem aIO(x y:χ)(ho:o.op=.slice 9 x (β y) none none){a:Int}(hx:f x=tV (p++q))(hy:f y=.int .i64 a)(ha:a=(p.length:Z))(w:ξ):(π f o).run μ w=.ok (.value (tV q)) w:=by
 subst ha;have h2:((p.length:Z):Int)<=(((p++q).length:Z):Int):=by rw[Ag];omega
 unfold π;rw[ho];simp only[Cc,Dx];rw[hx,hy];go_simp;rw[η O];refine æ (λs=>Result.ok (Next.value (Value.string s)) w) (wJ ?_);rw[Dy,Dy,Lib.extract_data];simp
end
theorem aIW(a:Int)(ha:υ a)(w:ξ):Ξ μ 60 #[.int .i64 a] w λe w'=>∃l,TextOf (ã a).toNat l/\e=.returned (tV (rD a++l))/\Below w.heap.size w w':=by
 have hab:=jB ha;obtain⟨m,em⟩:∃m:Z,ã a=m:=⟨(ã a).toNat,O⟩;rw[em] at hab;rw[show (ã a).toNat=m by rw[em];rfl];obtain⟨T,eT⟩:∃T:Int,T=(10:Int)^32:=⟨_,rfl⟩;have hT:T=100000000000000000000000000000000:=by rw[eT];decide
 have hP:0<=(m:Int)*T/\(m:Int)*T<=18446744073709551616*T:=⟨Hg O O,Ci O O⟩;obtain⟨X,eX⟩:∃X:Z,X=m*10^32/4294967296:=⟨_,rfl⟩;have eX':(m:Int)*T/2^32=(X:Int):=by rw[eX,eT,Int.natCast_ediv,gG,Int.natCast_pow];rfl
 have hX:(X:Int)<=18446744073709551616*T:=by rw[<-eX'];exact Int.le_trans (Fh _ hP.1) hP.2
 obtain⟨tn1,tn2⟩:=aMb m;rw[<-eX] at tn1;have hnd:nDigits X<=60:=wV Yc (by
  have e1:(10:Z)^60=1000000000000000000000000000000000000000000000000000000000000:=by decide
  omega)
 have htd:Ψ (33-nDigits X) 48++à X=à (m/4294967296)++jA 32 (jZ (m%4294967296) 32):=by have:=aDA 32 (m/4294967296) _ Yc tn2;rw[<-tn1] at this;exact this
 refine bC Tryz.func60 J 68 J Yd (λA hs hd hb=>?_);have b0:A.eval (.tmp 0)=γ ζ a:=hb 0 _ J;clear hb;refine aD (aG ?_);refine N ?_;refine aC<|aD<|gQ (Bl _) ?_;intro w1 H1 z1;refine N ?_;refine ε (jG a ha w1) ?_;rintro e w2 ⟨b1,rfl,_,n2,k2⟩;refine⟨_,J,?_⟩;refine ε (aNu _ b1 a _ _ w2 ((JW H1.v0).below k2) n2 (qV ha)) ?_;rintro e w3 ⟨rfl,n3,k3⟩;rw[em] at n3;have B3:=gB (bZ H1.bel k2 H1.bel.size) k3 (Xr _);refine⟨_,J,?_⟩;refine N ?_;refine aC ?_;obtain⟨b,eb⟩:∃b,b=w.heap.size:=⟨_,rfl⟩;have hbW:w.heap.size<=b:=Bq eb.symm;rw[<-eb] at n3 k3;rw[<-eb];have hb3:=n3.lt;clear H1 n2 k2;refine aD<|gQ (Bl _) ?_;intro w4 H4 z4;refine ε (pE 10 (by unfold υ;omega) w4) ?_;rintro e w5 ⟨b2,rfl,_,n5,k5⟩;refine⟨_,J,?_⟩;refine ε (pE 32 (by unfold υ;omega) w5) ?_;rintro e w6 ⟨b3,rfl,_,n6,k6⟩;refine⟨_,J,?_⟩;have i6:=((JW H4.v0).below k5).below k6;refine ε (aEa _ b2 b3 10 32 Yc Yc Yc _ _ w6 i6 (n5.below k6) n6 (qV (by unfold υ;omega))) ?_;rintro e w7 ⟨rfl,n7,k7⟩;rw[<-eT] at n7;have N7:=(((n3.below H4.bel).below k5).below k6).other k7 O i6;have B7:=gB (bZ (bZ (bZ B3 H4.bel B3.size) k5 (Ap B3.size H4.bel.size)) k6 (Ap (Ap B3.size H4.bel.size) k5.size)) k7 B3.size;refine⟨_,J,?_⟩;refine N ?_;refine aC ?_;clear H4 n3 n5 n6 k5 k6 i6;obtain⟨s7,v7,i7⟩:=tT N7;refine aD ?_;iterate 3 refine N ?_
 refine ε (zK b b _ _ T _ _ w7 i7 N7 n7 (yV O O) (yV O O)) ?_;rintro e w8 ⟨rfl,N8,k8⟩;have B8:=gB B7 k8 hbW;obtain⟨s8,v8,i8⟩:=tT N8;refine⟨_,J,?_⟩;refine aC<|aD ?_;iterate 2 refine N ?_
 refine ε (aPp b b 32 _ hP.1 Yc _ _ w8 i8 N8 (yV O O)) ?_;rintro e w9 ⟨rfl,N9,k9⟩;rw[eX'] at N9;have B9:=gB B8 k9 hbW;refine⟨_,J,?_⟩;refine aC<|aD<|qa ?_;refine ε (MU b X w9 N9 (yV O O)) ?_;rintro e w10 ⟨rfl,k10⟩;have B10:=bZ B9 k10 B9.size;refine⟨_,J,?_⟩;refine N ?_;refine aC ?_;obtain⟨nd,end_⟩:∃nd,nDigits X=nd:=⟨_,rfl⟩;have hln:∀d,(Ψ d 48++à X).length=d+nd:=λd=>by rw[Ag,List.length_replicate,decDigits_length,end_]
 rw[end_] at hnd htd;refine lS (λA W=>W=w10/\A.tmps.size=68/\A.defers=[]/\A.eval (.tmp 0)=γ ζ a/\A.eval (.tmp 5)=tV (à (m/4294967296)++jA 32 (jZ (m%4294967296) 32))) ?_ (λC W hI=>?_)
 .refine aJ ?_;refine bR (λr A W=>∃d,W=w10/\d<=33-nd/\33-nd-d<=r/\A.tmps.size=68/\A.defers=[]/\A.eval (.tmp 0)=γ ζ a/\A.eval (.tmp 5)=tV (Ψ d 48++à X)) (33-nd)
   ⟨0,rfl,Xz _,Xr _,YA,YB,E,E⟩ (λr B W hI=>?_)
  clear b0 hs hd;obtain⟨d,rfl,hd1,hdr,hs,hd,b0,b5⟩:=hI;refine aH<|aD (aG ?_);refine N ?_;refine qg (jS _ J E _) ?_;by_cases hc:d+nd<33
  .refine qg (dH (b:=true) _ _ J E E (Xt (by rw[hln];omega)) _) ?_;refine aC<|aS E ?_;refine aR<|aJ<|aI<|qa ?_;refine qg (gZ (a:=[48]) _ _ J J E (by rw[hln];simp only[Ai,Au];omega) _) ?_;refine N ?_;exact I7 ⟨33-nd-(d+1),O,d+1,J,O,O,YA,YB,E,E⟩
  refine qg (dH (b:=false) _ _ J E E (Xf (by rw[hln];omega)) _) ?_;refine aC<|aO E ?_;obtain rfl:d=33-nd:=O;exact bL (Q8 ⟨J,J,YA,YB,E,Ae E (by rw[htd])⟩)
 clear b0 hs hd;obtain⟨rfl,hs,hd,b0,b5⟩:=hI;obtain⟨V,Q,r0,e5,hVl,hQl,hlx,hQc⟩:∃V Q r0,à (m/4294967296)++jA 32 (jZ (m%4294967296) 32)=V++(Q++Ψ r0 48)/\V.length<=60/\Q.length+r0=32/\(∃l,TextOf m l/\l.length<=100/\l=if Q=[] then V else V++([46]++Q))/\(Q=[]\/∃Q' c,Q=Q'++[c]/\c≠48):=by
  obtain⟨Q,r0,hQ,hr0,hQc⟩:=aKc (m%4294967296) (qN _ Yc);have h1:=æ List.length htd;rw[hln,Ag,pR] at h1;have h2:=pR 32 (jZ (m%4294967296) 32);rw[hQ,Ag,List.length_replicate] at h2;refine⟨_,Q,r0,by rw[hQ],O,h2,?_,?_⟩
  .rcases hQc with ⟨h,rfl⟩|⟨Q',c,i,e1,hc,hi,f1,f2,e2⟩
   .exact⟨_,Aa ⟨h,J⟩,O,J⟩
   refine⟨_,Ab ⟨i,hi,f1,f2,J⟩,?_,?_⟩
   .rw[<-e2];simp only[Ag,Ai];omega
   rw[δ (by rw[e1];simp), <-e2];rfl
  rcases hQc with ⟨_,h⟩|⟨Q',c,_,e1,hc,_⟩
  .exact Aa h
  exact Ab ⟨Q',c,e1,hc⟩
 rw[e5] at b5;clear e5 htd tn1 tn2 hln end_ hP eX eX' hX eT hT;refine aD (aG ?_);refine N ?_;refine qg (jS _ J E _) ?_;have eln:(((V++(Q++Ψ r0 48)).length:Z):Int)-32=((V.length:Z):Int):=by simp only[Ag,List.length_replicate];omega
 refine qg (v:=γ ζ (V.length:Z)) ((kT _ _ J E E O O _).trans (æ (λz=>Result.ok (Next.value (ò ζ z)) W) eln)) ?_;refine N ?_;refine aC<|aH<|fI (S:=λ_=>True) (.mv 0 (.mv 1 (.mv 2 (.mv 3 (.mv 4 (.mv 5 (.mv 6 (.mv 7 .fin)))))))) [] Yl Yl ?_;iterate 2 refine qj ?_
 refine dC J J (λ_ _ _ h=>h) Yw (λw=>XI (p:=V) _ _ J E E J w) ?_;iterate 2 refine qj ?_
 refine dC J J (λ_ _ _ h=>h) Yw (λw=>aIO (p:=V) _ _ J E E J w) ?_;iterate 2 refine qj ?_
 refine gM<|lS (λA W2=>W2=W.drew/\A.tmps.size=68/\A.defers=[]/\A.eval (.tmp 0)=γ ζ a/\A.eval (.tmp 7)=tV V/\A.eval (.tmp 8)=tV Q) ?_ (λC W2 hI=>?_)
 .refine aJ ?_;refine bR (λr A W2=>r<=r0/\W2=W.drew/\A.tmps.size=68/\A.defers=[]/\A.eval (.tmp 0)=γ ζ a/\A.eval (.tmp 7)=tV V/\A.eval (.tmp 8)=tV (Q++Ψ r 48)) r0
   ⟨Xr _,rfl,YA,YB,E,E,E⟩ (λr B W2 hI=>?_)
  clear b0 b5 hs hd;obtain⟨hr,rfl,hs,hd,b0,b7,b8⟩:=hI;refine aH<|aD (aG ?_);refine N ?_;refine qg (jS _ J E _) ?_;cases r with
  |succ r=>
   have eQ:Q++Ψ (r+1) 48=(Q++Ψ r 48)++[48]:=by rw[List.replicate_succ', <-Ce]
   have hM:(Q++Ψ r 48).length<=32:=by rw[Ag,List.length_replicate];omega
   obtain⟨M,eM⟩:∃M,M=Q++Ψ r 48:=⟨_,rfl⟩;rw[<-eM] at eQ hM;rw[eQ] at b8 ⊢;have hl1:(M++[48]).length=M.length+1:=Ag;refine qg (bW (b:=true) _ _ J E E (Xt (by rw[hl1];omega)) _) ?_;iterate 3 refine N ?_
   refine qg (jS _ J E _) ?_;refine qg ((kT _ _ J E E O O _).trans (by rw[hl1,show ((M.length+1:Z):Int)-1=((M.length:Z):Int) by omega])) ?_;refine qg (lK (l:=M++[48]) (k:=M.length) _ _ J E E J O _) ?_;refine qg (jR (b:=true) _ _ J E E (by simp) _) ?_;refine ν ?_;refine aC<|aS E ?_;refine aR<|aJ<|aI ?_;iterate 2 refine N ?_
   refine qg (jS _ J E _) ?_;refine qg ((kT _ _ J E E O O _).trans (by rw[hl1,show ((M.length+1:Z):Int)-1=((M.length:Z):Int) by omega])) ?_;refine qg (XI (p:=M) (q:=[48]) _ _ J E E J _) ?_;refine N ?_;exact I7 ⟨r,Nat.lt_succ_self _,O,J,YA,YB,E,E,Ae E (by rw[eM])⟩
  |zero=>
   rw[show Q++Ψ 0 48=Q from Be Q] at b8 ⊢;rcases hQc with rfl|⟨Q',c,rfl,hc⟩
   .refine qg (bW (b:=false) _ _ J E E Yc _) ?_;refine N ?_;iterate 6 refine bP ?_
    refine ι ?_;refine aC<|aO E ?_;exact bL (Q8 ⟨J,J,YA,YB,E,E,E⟩)
   have hl1:(Q'++[c]).length=Q'.length+1:=Ag;refine qg (bW (b:=true) _ _ J E E (Xt (by rw[hl1];omega)) _) ?_;iterate 3 refine N ?_
   refine qg (jS _ J E _) ?_;refine qg ((kT _ _ J E E O O _).trans (by rw[hl1,show ((Q'.length+1:Z):Int)-1=((Q'.length:Z):Int) by omega])) ?_;refine qg (lK (l:=Q'++[c]) (k:=Q'.length) _ _ J E E J O _) ?_;refine qg (jR (b:=false) _ _ J E E (Xf (λh=>hc (Fx.1 (by simp only[List.getElem_concat_length] at h;show c.toNat=48;omega)))) _) ?_;refine ν ?_;refine aC<|aO E ?_;exact bL (Q8 ⟨J,J,YA,YB,E,E,E⟩)
 clear b0 b5 hs hd;obtain⟨rfl,hs,hd,b0,b7,b8⟩:=hI;obtain⟨l,hl,hl100,hlc⟩:=hlx;refine lS (λA W2=>W2=W.drew/\A.tmps.size=68/\A.defers=[]/\A.eval (.tmp 0)=γ ζ a/\A.eval (.tmp 7)=tV l) ?_ (λC W2 hI=>?_)
 .refine aD (aG ?_);refine N ?_;refine qg (jS _ J E _) ?_;by_cases h0:Q=[]
  .rw[η h0] at hlc;refine qg (bW (b:=false) _ _ J E E (by rw[h0];decide) _) ?_;refine aC<|aO E ?_;exact iE ⟨J,J,YA,YB,E,by rw[hlc];exact E⟩
  rw[δ h0] at hlc;have:=List.length_pos_iff.2 h0;refine ψ ?_;refine aC<|aS E ?_;refine aI ?_;iterate 2 refine N ?_
  refine qg (gZ (a:=[46]) _ _ J J E (by simp only[Ai,Au];omega) _) ?_;refine qg (gZ _ _ J E E (by simp only[Ag,Ai,Au];omega) _) ?_;refine N ?_;exact kL ⟨J,J,YA,YB,E,by rw[hlc];exact E⟩
 clear b0 b7 b8 hs hd;obtain⟨rfl,hs,hd,b0,b7⟩:=hI;refine aH<|aD (aG ?_);refine N ?_;by_cases hn:a<0
 .refine ψ ?_;refine aC<|aS E ?_;refine aD<|qa ?_;refine qg (gZ (a:=[45]) _ _ J J E (by simp only[Ai,Au];omega) _) ?_;refine N ?_;refine aC ?_;exact aQ (fF (aN YB (bS J E) ⟨l,hl,by rw[show rD a=[45] from η hn],by rw[eb];exact B10.drew⟩))
 refine Θ ?_;refine aC<|aO E ?_;refine aR<|aD ?_;iterate 2 refine N ?_
 refine aC ?_;exact aQ (aN YB (bS J E) ⟨l,hl,by rw[show rD a=[] from δ hn];rfl,by rw[eb];exact B10.drew⟩)
theorem XT(a:Int)(ha:υ a)(w:ξ):Ξ μ 60 #[.int .i64 a] w λe w'=>e=.returned (tV (qK a))/\Below w.heap.size w w':=
 (aIW a ha w).mono (λe w' ⟨l,h1,h2,h3⟩=>⟨by rw[h2,VW h1],h3⟩)
theorem aMe(n:Nd)(hn:NdOK n)(hg:0<=n.dg)(hi:0<=n.id)(hf:0<=n.fr)(w:ξ):Ξ μ 25 #[aX (iX n) 0 14] w λe w'=>e=.returned (tV (rpT n))/\Below w.heap.size w w':=by
 have l1:=nZ hn.id;have l2:=nZ hn.fr;have l5:=UQ hn.dg;obtain⟨di,edi⟩:∃d:Z,n.id=(d:Z):=⟨n.id.toNat,O⟩;obtain⟨df,edf⟩:∃d:Z,n.fr=(d:Z):=⟨n.fr.toNat,O⟩;have ri:=hn.id.2;have rf:=hn.fr.2;rw[edi] at ri l1;rw[edf] at rf l2;refine bC Tryz.func25 J 62 J Yd (λA hs hd hb=>?_);have b0:A.eval (.tmp 0)=aX (iX n) 0 14:=hb 0 _ J;clear hb;have H:=Bl w;refine aD (aG ?_);refine jO H ?_;clear H;intro w1 H z1;refine N ?_;refine aC ?_;replace H:=H.drew;have hS:Its [τ 57 w.heap.size 14 14 (iX n)] w1.drew:=Aj H.o0 (Ak _);refine aH<|fI (S:=Its [τ 57 w.heap.size 14 14 (iX n)]) (.mv 0 (.rd 1 (.mv 5 (.rd 6 (.go 2 (.mv 3 (.mv 4 (.go 7 (.mv 8 (.mv 9 .fin)))))))))) [] Yl Yl ?_;refine qj ?_;refine Yr J hS (λ_ H=>aT (v:=γ ζ (di:Z)) _ _ J OneK.out E H.v0 O (by rw[<-edi];rfl)) ?_;refine qj ?_;refine Yr J hS (λ_ H=>aT (v:=γ ζ (df:Z)) _ _ J OneK.out E H.v0 O (by rw[<-edf];rfl)) ?_;refine j_c (yB di O _) ?_;rintro e w2 ⟨rfl,k2⟩;replace H:=H.call k2;refine⟨_,J,λ_ _=>Aj H.o0 (Ak _),?_⟩;refine dC J J (λ_ _ _ h=>h) Yw (λw=>gZ (a:=[110,111,100,101,32]) _ _ J J E (by simp only[Ai,Au];omega) w) ?_;refine dC J J (λ_ _ _ h=>h) Yw (λw=>gZ (b:=[32,102,114,97,109,101,32]) _ _ J E J (by simp only[Ag,Ai,Au];omega) w) ?_;refine j_c (yB df O _) ?_;rintro e w3 ⟨rfl,k3⟩;replace H:=H.call k3;refine⟨_,J,λ_ _=>Aj H.o0 (Ak _),?_⟩;refine dC J J (λ_ _ _ h=>h) Yw (λw=>gZ _ _ J E E (by simp only[Ag,Ai,Au];omega) w) ?_;refine qj ?_;refine gM ?_;obtain⟨m1,em1⟩:∃m,m=[110,111,100,101,32]++itoa (di:Z)++[32,102,114,97,109,101,32]++itoa (df:Z):=⟨_,rfl⟩;rw[<-em1];have lm1:m1.length<=52:=by rw[em1];simp only[Ag,Ai,Au];omega
 refine aH<|aD<|qa ?_;refine aC<|aJ ?_;refine bR (λr A W=>∃k:Z,k<=3/\3-k<=r/\A.tmps.size=62/\A.defers=[]/\A.eval (.tmp 1)=φ (β ⟨w.heap.size,0,none⟩)/\A.eval (.tmp 3)=tV (m1++A8 n k)/\A.eval (.tmp 4)=γ ζ (k:Z)/\Cx w W [τ 57 w.heap.size 14 14 (iX n)]) 3
  ⟨0,Xz _,O,YA,YB,E,Ae E (by rw[show A8 n 0=[] from rfl,Be]),E,H⟩ (λr B W hI=>?_)
 clear b0 hs hd H hS;obtain⟨k,hk,hkr,hs,hd,b1,b3,b4,H⟩:=hI;have lk:=KJ hn k;refine aH<|aD (aG ?_);iterate 2 refine N ?_
 refine aC<|fB (λhc=>?_) (λhc=>?_)
 .have hin:k<3:=by have:=Xu hc;omega
  have t1:=xY (hn.us k);have t2:=xY (hn.ax k).X;refine aR<|aH (aJ ?_);replace H:=H.drew;have hS:Its [τ 57 w.heap.size 14 14 (iX n)] W.drew:=Aj H.o0 (Ak _);refine fI (S:=Its [τ 57 w.heap.size 14 14 (iX n)]) (.mv 0 (.mv 1 (.mv 2 (.mv 3 (.rd 4 (.mv 8 (.mv 9 (.mv 10 (.rd 11 (.go 5 (.mv 6 (.mv 7 (.go 12 (.mv 13 (.mv 14 (.mv 15 .fin)))))))))))))))) [] Yl Yl ?_;iterate 3 refine qj ?_
  refine dC J J (λ_ _ _ h=>h) Yw (λw=>bB (i:=k) _ _ _ _ J ArrK.out SizK.out E E J hin w) ?_;refine Yr J hS (λ_ H=>aT (v:=γ ζ (n.us k)) _ _ J OneK.out E H.v0 O (by rw[show 0+2+k*1=0+2+k by omega];exact aIk k hin)) ?_;iterate 2 refine qj ?_
  refine dC J J (λ_ _ _ h=>h) Yw (λw=>bB (i:=k) _ _ _ _ J ArrK.out SizK.out E E J hin w) ?_;refine Yr J hS (λ_ H=>aT (v:=γ ζ (n.ax k).X) _ _ J OneK.out E H.v0 O (aIj hin)) ?_;refine j_c (XT (n.us k) (hn.us k) _) ?_;rintro e w6 ⟨rfl,k6⟩;replace H:=H.call k6;refine⟨_,J,λ_ _=>Aj H.o0 (Ak _),?_⟩;refine dC J J (λ_ _ _ h=>h) Yw (λw=>gZ (a:=[32]) _ _ J J E (by simp only[Ai,Au];omega) w) ?_;refine dC J J (λ_ _ _ h=>h) Yw (λw=>gZ (b:=[62]) _ _ J E J (by simp only[Ag,Ai,Au];omega) w) ?_;refine j_c (XT (n.ax k).X (hn.ax k).X _) ?_;rintro e w7 ⟨rfl,k7⟩;replace H:=H.call k7;refine⟨_,J,λ_ _=>Aj H.o0 (Ak _),?_⟩;refine dC J J (λ_ _ _ h=>h) Yw (λw=>gZ _ _ J E E (by simp only[Ag,Ai,Au];omega) w) ?_;refine dC J J (λ_ _ _ h=>h) Yw (λw=>gZ _ _ J E E (by simp only[Ag,Ai,Au];omega) w) ?_;refine qj ?_;refine oC<|aI ?_;repeat refine N ?_
  exact aU ⟨3-(k+1),O,k+1,O,O,YA,YB,E,Ae E (by rw[show A8 n (k+1)=A8 n k++([32]++qK (n.us k)++[62]++qK (n.ax k).X) from rfl];simp only[Ce]),Ae E YC,H⟩
 obtain rfl:k=3:=by have:=Xg hc;omega
 obtain⟨m2,em2⟩:∃m,m=m1++A8 n 3:=⟨_,rfl⟩;have lm2:m2.length<=322:=by rw[em2,Ag];omega
 rw[<-em2] at b3;refine bL (dQ ?_);refine aD ?_;iterate 2 refine N ?_
 refine qg (aT (v:=γ ζ ((n.dg.toNat:Z):Int)) _ _ J OneK.out E H.v0 O (by rw[Int.toNat_of_nonneg hg];rfl)) ?_;have rd:=hn.dg.2;refine ε (jG ((n.dg.toNat:Z):Int) (by unfold υ;omega) _) ?_;rintro e w4 ⟨b,rfl,_,hx,k4⟩;replace H:=H.call k4;refine⟨_,J,?_⟩;refine ε (XR 16 O b n.dg.toNat w4 hx (aBX O)) ?_;rintro e w5 ⟨rfl,k5⟩;rw[aPE];replace H:=H.call k5;refine⟨_,J,?_⟩;refine qg (gZ (a:=[32]) _ _ J J E (by simp only[Ai,Au];omega) _) ?_;refine qg (gZ _ _ J E E (by simp only[Ag,Ai,Au];omega) _) ?_;refine N ?_;refine aC ?_;obtain⟨m3,em3⟩:∃m,m=m2++([32]++oK n.dg.toNat):=⟨_,rfl⟩;rw[<-em3];have lm3:m3.length<=340:=by rw[em3];simp only[Ag,Ai,Au];omega
 refine lS (λA W=>A.tmps.size=62/\A.defers=[]/\A.eval (.tmp 1)=φ (β ⟨w.heap.size,0,none⟩)/\A.eval (.tmp 3)=tV (m3++(if n.vS then [] else [32,119,101,97,107]))/\Cx w W [τ 57 w.heap.size 14 14 (iX n)]) ?_ (λC W2 hI=>?_)
 .refine aD<|qa ?_;cases hv:n.vS with
  |true=>refine qg (aT (v:=Δ true) _ _ rfl OneK.out E H.v0 O (by rw[<-hv];rfl)) ?_;refine N ?_;refine aC<|aO E ?_;exact iE ⟨J,YA,YB,E,Ae E (by rw[η J,Be]),H⟩
  |false=>refine qg (aT (v:=Δ false) _ _ rfl OneK.out E H.v0 O (by rw[<-hv];rfl)) ?_;refine N ?_;refine aC<|aS E ?_;refine aI<|qa ?_;refine qg (gZ (b:=[32,119,101,97,107]) _ _ J E J (by simp only[Ai,Au];omega) _) ?_;refine N ?_;exact kL ⟨J,YA,YB,E,Ae E (by rw[δ Yc]),H⟩
 clear b1 b3 b4 hs hd H;obtain⟨hs,hd,b1,b3,H⟩:=hI;obtain⟨m4,em4⟩:∃m,m=m3++(if n.vS then [] else [32,119,101,97,107]):=⟨_,rfl⟩;have lm4:m4.length<=350:=by rw[em4,Ag];split<;>simp only[Ai,Au]<;>omega
 rw[<-em4] at b3;refine aH<|aD (aG ?_);refine N ?_;refine aC<|aJ ?_;refine bR (λr A W=>∃k:Z,k<=4/\4-k<=r/\A.tmps.size=62/\A.defers=[]/\A.eval (.tmp 1)=φ (β ⟨w.heap.size,0,none⟩)/\A.eval (.tmp 3)=tV (m4++uZ n.rl.I k)/\A.eval (.tmp 5)=γ ζ (k:Z)/\Cx w W [τ 57 w.heap.size 14 14 (iX n)]) 4
  ⟨0,Xz _,O,YA,YB,E,Ae E (by rw[show uZ n.rl.I 0=[] from rfl,Be]),E,H⟩ (λr B W hI=>?_)
 clear b1 b3 hs hd H;obtain⟨k,hk,hkr,hs,hd,b1,b3,b5,H⟩:=hI;have lk:=KV n.rl.I k hk;refine aH<|aD (aG ?_);iterate 2 refine N ?_
 refine aC<|fB (λhc=>?_) (λhc=>?_)
 .have hin:k<4:=by have:=Xu hc;omega
  refine aR<|lS (λA W=>A.tmps.size=62/\A.defers=[]/\A.eval (.tmp 1)=φ (β ⟨w.heap.size,0,none⟩)/\A.eval (.tmp 3)=tV (m4++uZ n.rl.I (k+1))/\A.eval (.tmp 5)=γ ζ (k:Z)/\Cx w W [τ 57 w.heap.size 14 14 (iX n)]) ?_ (λC W2 hI=>?_)
  .refine aJ<|aD ?_;iterate 2 refine N ?_
   refine qg (bB (i:=k) _ _ _ _ J ArrK.out SizK.out E E J hin _) ?_;have hI4:=aIi (n:=n) k hin;cases hv:n.rl.I k with
   |true=>refine qg (aT (v:=Δ true) _ _ rfl OneK.out E H.v0 O (by rw[show 0+10+k*1=0+10+k by omega,hI4,hv])) ?_;refine N ?_;refine aC<|aO E ?_;exact iE ⟨J,YA,YB,E,Ae E (by rw[show uZ n.rl.I (k+1)=uZ n.rl.I k++(if n.rl.I k then [] else [32,111,117,116]++itoa (k:Z)) from rfl,hv,η J,Be]),E,H⟩
   |false=>
    refine qg (aT (v:=Δ false) _ _ J OneK.out E H.v0 O (by rw[show 0+10+k*1=0+10+k by omega,hI4,hv])) ?_;refine N ?_;refine aC<|aS E ?_;refine aI ?_;iterate 2 refine N ?_
    refine ε (yB k O _) ?_;rintro e w6 ⟨rfl,k6⟩;replace H:=H.call k6;refine⟨_,J,?_⟩;have ik:=nZ (n:=(k:Z)) (by unfold υ;omega);refine qg (gZ (a:=[32,111,117,116]) _ _ J J E (by simp only[Ai,Au];omega) _) ?_;refine qg (gZ _ _ J E E (by simp only[Ag,Ai,Au];omega) _) ?_;refine N ?_;exact kL ⟨J,YA,YB,E,Ae E (by rw[show uZ n.rl.I (k+1)=uZ n.rl.I k++(if n.rl.I k then [] else [32,111,117,116]++itoa (k:Z)) from rfl,hv,δ Yc];simp only[Ce]),E,H⟩
  clear b1 b3 b5 hs hd H;obtain⟨hs,hd,b1,b3,b5,H⟩:=hI;refine aI (aG ?_);repeat refine N ?_
  exact aU ⟨4-(k+1),O,k+1,O,O,YA,YB,E,E,Ae E YC,H⟩
 obtain rfl:k=4:=by have:=Xg hc;omega
 refine bL (dQ ?_);refine aD<|qa ?_;refine qg (gZ (b:=[10]) _ _ J E J (by simp only[Ag,Ai,Au];omega) _) ?_;refine N ?_;refine aC<|aQ (aN YB (bS rfl E) ⟨?_,H.bel⟩);rw[em4,em3,em2,em1, <-edi, <-edf];unfold rpT;simp only[Ce]
section
variable {f:χ->Φ} {o:å}
variable{b:Bool}
theorem XH(x y:χ)(ho:o.op=.binOp .geq 5 x y 5){u v:Int}(hx:f x=.int .u8 u)(hy:f y=.int .u8 v)(hb:decide (v<=u)=b)(w:ξ):(π f o).run μ w=.ok (.value (.bool b)) w:=by subst hb;unfold π;rw[ho];dsimp only;rw[hx,hy];go_simp
theorem aIF(x y:χ)(ho:o.op=.binOp .leq 5 x y 5){u v:Int}(hx:f x=.int .u8 u)(hy:f y=.int .u8 v)(hb:decide (u<=v)=b)(w:ξ):(π f o).run μ w=.ok (.value (.bool b)) w:=by subst hb;unfold π;rw[ho];dsimp only;rw[hx,hy];go_simp
theorem XJ(x y:χ)(ho:o.op=.binOp .sub 5 x y 5){c:Z}(hx:f x=.int .u8 (c:Int))(hy:f y=.int .u8 48)(h:48<=c)(h2:c<256)(w:ξ):(π f o).run μ w=.ok (.value (.int .u8 ((c-48:Z):Int))) w:=by unfold π;rw[ho];dsimp only;rw[hx,hy];go_simp;simp[IntKind.wrap,IntKind.bits,IntKind.signed];omega
end
theorem aFb(c:Z)(w:ξ):Ξ μ 48 #[.int .u8 (c:Int)] w λe w'=>e=.returned (.bool (decide (48<=c/\c<=57)))/\w'=w:=by
 refine bC Tryz.func48 J 9 J Yd (λA hs hd hb=>?_);have b0:A.eval (.tmp 0)=γ .u8 (c:Int):=hb 0 _ J;clear hb;refine aD (aG ?_);refine N ?_;refine aC<|aD<|qa ?_;by_cases h:48<=c
 .refine qg (XH (b:=true) _ _ J E E (Xt O) _) ?_;iterate 2 refine N ?_
  refine qg (aIF (b:=decide (48<=c/\c<=57)) _ _ J E E (Dc.2 ⟨λ_=>⟨h,O⟩,λh=>by omega⟩) _) ?_;refine ν ?_;refine N ?_;refine aC ?_;exact aQ (aN YB (bS J E) ⟨J,J⟩)
 refine qg (XH (b:=false) _ _ J E E (Xf O) _) ?_;refine N ?_;iterate 2 refine bP ?_
 refine ι ?_;refine N ?_;refine aC ?_;exact aQ (aN YB (bS J E) ⟨by rw[Xf (λh2=>h h2.1)],J⟩)
def digI(w:θ UInt8)(last:Z):Int:=match Ω w last with
 |some i=>(i:Z)
 |none=> -1
variable{c:UInt8}{last:Z}
theorem MX:digI [c] last=if 48<=c.toNat/\c.toNat<=48+last then ((c.toNat-48:Z):Int) else -1:=by
 unfold digI Ω;dsimp only;split<;>rename_i h
 .split at h
  .rw[η (by assumption)];rw[Dp h]
  cases h
 split at h
 .cases h
 rw[δ (by assumption)]
variable{w:θ UInt8}
theorem aOb(h:w.length≠1):digI w last= -1:=by
 unfold digI Ω
 match w,h with
 |[],_=>rfl
 |[_],h=>exact ρ rfl h
 |_::_::_,_=>rfl
theorem uU(l:θ UInt8)(last:Z)(hl:last<=9)(w:ξ):Ξ μ 22 #[tV l,.int .i64 ((last+1:Z):Int)] w λe w'=>e=.returned (.int .i64 (digI l last))/\Below w.heap.size w w':=by
 refine bC Tryz.func22 J 25 J Yd (λA hs hd hb=>?_);have b0:A.eval (.tmp 0)=tV l:=hb 0 _ J;have b1:A.eval (.tmp 1)=γ ζ ((last+1:Z):Int):=hb 1 _ J;clear hb;refine aD (aG ?_);refine N ?_;refine aC<|aH<|aD<|qa ?_;have es:(ByteArray.mk l.toArray).size=l.length:=Co ..;refine qg ((yR _ J E _).trans (by rw[es])) ?_;by_cases h1:l.length=1
 .obtain⟨c,rfl⟩:=List.length_eq_one_iff.1 h1;have hc:=c.toNat_lt;refine ψ ?_;iterate 2 refine N ?_
  refine qg (lK (l:=[c]) (k:=0) _ _ J E E J (show 0<1 by omega) _) ?_;refine ε (hw:=dW J J J E) (aFb c.toNat w) ?_;rintro e w1 ⟨rfl,rfl⟩;generalize hb:decide (48<=c.toNat/\c.toNat<=57)=t;refine⟨Δ t,J,?_⟩;refine ν ?_;refine N ?_;cases t with
  |false=>
   have hb:=Xg hb;iterate 6 refine bP ?_
   refine ι ?_;refine aC<|aO E ?_;refine aR<|aD<|qa ?_;refine aC ?_;exact aQ (aN YB (bS J E) ⟨by rw[MX,δ (λh=>hb O)],Af _ _⟩)
  |true=>
   have hb:=Xu hb;refine N ?_;refine qg (lK (l:=[c]) (k:=0) _ _ J E E J (show 0<1 by omega) _) ?_;refine qg (XJ (c:=c.toNat) _ _ J E E O O _) ?_;refine qg (OM (u:=c.toNat-48) _ J E O _) ?_;refine N ?_;by_cases hm:c.toNat<=48+last
   .refine ψ ?_;refine ν ?_;refine aC<|aS E ?_;refine aD<|qa ?_;refine qg (lK (l:=[c]) (k:=0) _ _ J E E J (show 0<1 by omega) _) ?_;refine qg (XJ (c:=c.toNat) _ _ J E E O O _) ?_;refine qg (OM (u:=c.toNat-48) _ J E O _) ?_;refine N ?_;refine aC ?_;exact aQ (fF (aN YB (bS J E) ⟨by rw[MX,η ⟨O,hm⟩],Af _ _⟩))
   refine Θ ?_;refine ν ?_;refine aC<|aO E ?_;refine aR<|aD<|qa ?_;refine aC ?_;exact aQ (aN YB (bS J E) ⟨by rw[MX,δ (λh=>hm h.2)],Af _ _⟩)
 refine Θ ?_;refine N ?_;iterate 3 refine bP ?_
 refine ι ?_;refine N ?_;iterate 6 refine bP ?_
 refine ι ?_;refine aC<|aO E ?_;refine aR<|aD<|qa ?_;refine aC ?_;exact aQ (aN YB (bS J E) ⟨by rw[aOb h1],Af _ _⟩)
theorem XO:∀{l a:θ UInt8},ο c l=[a]->l=a
 |[],a,h=>by rw[ο] at h;exact (List.cons.inj h).1
 |x::l,a,h=>by
  unfold ο at h;split at h
  .exact ρ (List.cons.inj h).2 (ë c l)
  cases e:ο c l with
  |nil=>exact ρ e (ë c l)
  |cons b r=>rw[e] at h;obtain⟨h1,h2⟩:=List.cons.inj h;subst h2;rw[<-h1,XO e]
variable{k:θ UInt8}
theorem word_iff{l:θ UInt8}(h:ο 32 l=k::q){a:θ UInt8}(ha:ο 32 a=[a]):l=a↔k=a/\q=[]:=by
 constructor
 .intro e;rw[e,ha] at h;obtain⟨h1,h2⟩:=List.cons.inj h;exact⟨h1.symm,h2.symm⟩
 rintro⟨rfl,rfl⟩;exact XO h
theorem aMg(h:q.length≠4):è s q=none:=by
 unfold è;cases e:ω q with
 |none=>rfl
 |some v=>
  have hv:v.length=q.length:=by
   unfold ω at e;split at e
   .rw[<-Dp e,Ao]
   cases e
  match v,hv with
  |[],_=>rfl
  |[_],_=>rfl
  |[_,_],_=>rfl
  |[_,_,_],_=>rfl
  |[_,_,_,_],hv=>exact ρ hv.symm h
  |_::_::_::_::_::_,_=>rfl
theorem aJC(h:q.length≠1):yU s q=none:=by
 match q,h with
 |[],_=>rfl
 |[_],h=>exact ρ rfl h
 |_::_::_,_=>rfl
theorem aKh(h:q≠[]):NI s q=none:=by
 match q,h with
 |[],h=>exact ρ rfl h
 |_::_,_=>rfl
section
variable {f:χ->Φ} {o:å}
theorem aIy(x:χ)(ho:o.op=.slice 59 x (β (.const (.int .i64 4))) none none){off cap:Z}(hx:f x=.slice (β ⟨b,off,none⟩) (n+4) cap)(hc:n+4<=cap)(w:ξ)(hk:∀v,f (.const v)=v:=by exact λ_=>rfl):(π f o).run μ w=.ok (.value (.slice (β ⟨b,if 4<cap then off+4 else off,none⟩) n (cap-4))) w:=by
 by_cases h:4<cap
 .have:=zM (i:=4) x _ ho hx (hk _) J O h w;rw[kC] at this;rw[η h];exact this
 obtain rfl:cap=4:=O;obtain rfl:n=0:=O;unfold π;rw[ho];simp only[Cc,Dx];rw[hx,hk];go_simp
end
variable{m:Z}
theorem vW(h:0<=digI w m):∃i,Ω w m=β i/\digI w m=(i:Z):=by
 unfold digI at h ⊢;cases e:Ω w m with
 |some i=>exact⟨i,rfl,rfl⟩
 |none=>rw[e] at h;exact ρ h Yc
theorem GR(h:¬0<=digI w m):Ω w m=none:=by
 unfold digI at h;cases e:Ω w m with
 |some i=>rw[e] at h;exact ρ (Int.natCast_nonneg i) h
 |none=>rfl
theorem aRm(hm:m<=9):υ (digI w m):=by
 unfold digI;cases e:Ω w m with
 |some i=>have:=vY e;show υ ((i:Z):Int);unfold υ;omega
 |none=>exact ï
def TY(s:Pl)(p t k:θ UInt8)(q:θ (θ UInt8)):Prop:=0<=digI p 4/\0<=digI t 3/\0<=digI k 9/\(ω q).isSome=true/\0<=s.x.bad/\ì (digI k 9) s.x.bad s.c.fr ((ω q).getD []).length=0/\s.x.ly.length<400
instance (s:Pl) (p t k:θ UInt8) (q:θ (θ UInt8)):Decidable (TY s p t k q):=by unfold TY;infer_instance
theorem lieP_yes{p t:θ UInt8}(h:TY s p t k q):sI s (p::t::k::q)=β { s with x:={ s.x with ly:=s.x.ly++[⟨digI p 4,digI t 3,12+8*((ω q).getD []).length,enS (digI k 9) s.x.bad s.c.fr ((ω q).getD []).length (gL ((ω q).getD []))⟩] } }:=by obtain⟨h0,h1,h2,h3,h4,h5,h6⟩:=h;obtain⟨i0,g0,e0⟩:=vW h0;obtain⟨i1,g1,e1⟩:=vW h1;obtain⟨i2,g2,e2⟩:=vW h2;obtain⟨l,g3⟩:=Gb.1 h3;rw[g3] at h5 ⊢;rw[e2] at h5;rw[UT O g0 g1 g2 g3,e0,e1,e2];exact η h5
theorem aKr{p t:θ UInt8}(hb: -1<=s.x.bad)(h:¬TY s p t k q):sI s (p::t::k::q)=none:=by
 by_cases h0:0<=digI p 4
 .by_cases h1:0<=digI t 3
  .by_cases h2:0<=digI k 9
   .cases g3:ω q with
    |none=>exact í (Ab (Ab (Ab g3)))
    |some l=>
     by_cases h4:s.x.bad= -1\/400<=s.x.ly.length
     .exact I9 (Ab h4)
     obtain⟨i0,g0,e0⟩:=vW h0;obtain⟨i1,g1,e1⟩:=vW h1;obtain⟨i2,g2,e2⟩:=vW h2;rw[UT h4 g0 g1 g2 g3];refine δ (λe=>h ⟨h0,h1,h2,by rw[g3];rfl,O,?_,O⟩);rw[g3,e2];exact e
   exact í (Ab (Ab (Aa (GR h2))))
  exact í (Ab (Aa (GR h1)))
 exact í (Aa (GR h0))
theorem aKp(rd:Z->Z->Int)(bad:Int)(lv:Φ):jW rd bad lv (0+12)=.int .i64 bad:=rfl
theorem aEe(rd:Z->Z->Int)(bad:Int)(lv:Φ):jW rd bad lv (0+13)=lv:=rfl
theorem aOx{rd:Z->Z->Int}{bad:Int}{lv:Φ}{i:Z}{l:θ Int}(hi:i<4):∀j,j<14->stP (jW rd bad lv) (0+0+i*3) 3 (λa=>iV (gL l a)) j=jW (λs a=>if s=i then gL l a else rd s a) bad lv j:=λj hj=>by
 unfold stP jW;by_cases c3:j<12
 .rw[η c3,η c3];by_cases e:j/3=i
  .rw[η O];dsimp only;rw[η e,show j-(0+0+i*3)=j%3 by omega]
  rw[δ O];dsimp only;rw[δ e]
 rw[δ O,δ c3,δ c3]
theorem aNT(n:Nd)(l:θ Ms):(gW n l).fr=n.fr:=by
 unfold gW;split
 .rfl
 split
 .split<;>rfl
 rfl
theorem aOk{x:Ip}{c:Cl}{n:Nd}(hn:n∈frR x c):0<=n.id/\0<=n.fr:=by
 unfold frR at hn;split at hn
 .rename_i hE;obtain⟨i,hi,rfl⟩:=Eh.1 hn;unfold IJ at hi;have h1:=List.mem_filter.1 hi;have i4:=Df.1 h1.1;have gi:(i:Int)≠x.bad:=Xu h1.2;refine⟨by rw[aRG hE i4];exact Int.natCast_nonneg i,?_⟩;unfold wC;rw[δ gi,aNT];have e:=fr5 hE i4 gi;show 0<=(ndK x c 5 i).fr;rw[e];exact (F7 hE).2.1.1
 cases hn
theorem aAV{t:Pl}{l:θ UInt8}(hx:IpOK s.x)(hc:uF s.c)(h:kS s l=β t):t.o.length<=s.o.length+2400:=by
 have same:t.o=s.o->t.o.length<=s.o.length+2400:=λe=>by rw[e];omega
 unfold kS at h;split at h
 .cases h;omega
 split at h
 .cases h
 split at h
 .unfold è at h;split at h
  .cases h;exact same J
  cases h
 split at h
 .unfold rE at h;split at h
  .split at h
   .cases h;exact same J
   cases h
  cases h
 split at h
 .unfold yU at h;split at h
  .obtain⟨i,_,e⟩:=Eu.1 h;subst e;exact same J
  cases h
 split at h
 .unfold NI at h;split at h
  .cases h;exact same J
  cases h
 split at h
 .unfold sI at h;split at h
  .split at h
   .cases h
   split at h
   .split at h
    .cases h;exact same J
    cases h
   cases h
  cases h
 split at h
 .exact aKa hx hc h
 cases h
theorem linK_succ(L:θ (θ UInt8))(k:Z):σ L (k+1)=ä (σ L k) k (L.getD k []):=rfl
theorem MF(l:θ UInt8)(mx:Int)(w:ξ)(hm:w.cell? ⟨1,0,none⟩=β (.int .i64 mx))(hT:TabOK w):Ξ μ 5 #[tV l] w λe w'=>e=.returned (.tuple #[tV (uQ l),.int .i64 (wX l)])/\Below w.heap.size w w':=by
 refine bC Tryz.func5 J 39 J Yd (λA hs hd hb=>?_);have b0:A.eval (.tmp 0)=tV l:=hb 0 _ J;clear hb;have es:(ByteArray.mk l.toArray).size=l.length:=Co ..;refine aD (aG ?_);iterate 2 refine N ?_
 refine aC<|aH<|aD<|qa ?_;refine qg (yR _ J E _) ?_;by_cases h1:20000<l.length
 .refine qg (bW (b:=true) _ _ J E E (Xt (by rw[es];omega)) _) ?_;refine aC<|aS E ?_;refine aD ?_;iterate 2 refine N ?_
  refine aC ?_;have eO:uQ l=[]:=by unfold uQ;rw[η h1]
  have eE:wX l=1:=by unfold wX;rw[η h1]
  exact aQ (fF (aN YB (iP J E E) ⟨by rw[eO,eE],Af _ _⟩))
 refine qg (bW (b:=false) _ _ J E E (Xf (by rw[es];omega)) _) ?_;refine aC<|aO E ?_;refine aR<|aD<|qa ?_;refine ε (MQ 10 l mx w O hm) ?_;rintro e w1 ⟨rfl,m1,k1⟩;refine⟨_,J,?_⟩;obtain⟨L,eL⟩:∃L,L=ο 10 l:=⟨_,rfl⟩;have hLl:=uB 10 l;have hLm:=P6 10 l;rw[<-eL] at m1 hLl hLm ⊢;refine N ?_;refine aC<|aH<|aD ?_;iterate 2 refine N ?_
 by_cases h2:400<L.length
 .refine ψ ?_;refine aC<|aS E ?_;refine aD ?_;iterate 2 refine N ?_
  refine aC ?_;have eO:uQ l=[]:=by unfold uQ;rw[δ h1, <-eL,η h2]
  have eE:wX l=6:=by unfold wX;rw[δ h1, <-eL,η h2]
  exact aQ (fF (aN YB (iP J E E) ⟨by rw[eO,eE],k1⟩))
 have eO:uQ l=(σ L L.length).o:=by unfold uQ;rw[δ h1, <-eL,δ h2]
 have eE:wX l=0:=by unfold wX;rw[δ h1, <-eL,δ h2]
 rw[eO,eE];refine Θ ?_;refine aC<|aO E ?_;refine aR<|aD<|q_c (aCz w1) ?_;rintro e w2 ⟨b,rfl,hP⟩;refine⟨_,J,?_⟩;refine N ?_;refine aC<|aH<|aD ?_;iterate 3 refine N ?_
 refine aC ?_;have hT1:=hT.bel k1;have hm1:=aP hm k1;refine aJ ?_;refine bR (λr A W=>∃(k:Z),k<=L.length/\L.length-k<=r/\A.tmps.size=39/\A.defers=[]/\A.eval (.tmp 5)=φ (β ⟨b,0,none⟩)/\A.eval (.tmp 17)=κ (β ⟨w.heap.size,0,none⟩) L.length L.length/\A.eval (.tmp 18)=γ ζ (L.length:Z)/\A.eval (.tmp 19)=γ ζ (k:Z)/\ç w1 W b (σ L k)/\(σ L k).o.length<=2500*k) L.length
  ⟨0,Xz _,O,YA,YB,E,E,E,E,hP,Xr _⟩ (λr B W hI=>?_)
 clear b0 hs hd hP;obtain⟨k,hk,hkr,hs,hd,b5,b17,b18,b19,hP,hol⟩:=hI;refine aD (aG ?_);refine N ?_;refine aC<|aH<|fB (λhc=>?_) (λhc=>?_)
 .have hin:k<L.length:=by have:=Xu hc;omega
  have e1:L.getD k []=L[k]:=by rw[Bh,Bf hin];rfl
  have hln:=hLm L[k] (Dj hin);refine aR<|lS (λA W=>A.tmps.size=39/\A.defers=[]/\A.eval (.tmp 5)=φ (β ⟨b,0,none⟩)/\A.eval (.tmp 17)=κ (β ⟨w.heap.size,0,none⟩) L.length L.length/\A.eval (.tmp 18)=γ ζ (L.length:Z)/\A.eval (.tmp 19)=γ ζ (k:Z)/\ç w1 W b (σ L (k+1))/\(σ L (k+1)).o.length<=2500*(k+1)) ?_ (λC W2 hI=>?_)
  .refine aJ<|aD<|qa ?_;refine qg (dD (i:=k) _ _ _ _ J SlcK.out SizK.out E E J hin _) ?_;refine qg (aT (v:=tV L[k]) _ _ J OneK.out E (m1.below hP.bel) O (by unfold jE;rw[show 0+k*1=k by omega,e1])) ?_;iterate 2 refine N ?_
   refine aC<|aD ?_;iterate 2 refine N ?_
   refine ε (aFw mx hm1 hT1 hP O L[k] O) ?_;rintro e w3 ⟨rfl,hP3⟩;generalize hb:(kS (σ L k) L[k]).isSome=t;refine⟨Δ t,J,?_⟩;refine N ?_;refine aC ?_;have hO:=hP;obtain⟨_,_,_,_,hO,_,_⟩:=hO;cases t with
   |true=>
    refine aO E ?_;obtain⟨t,et⟩:=Gb.1 hb;rw[et] at hP3;have e2:σ L (k+1)=t:=by rw[linK_succ,e1];unfold ä;rw[et]
    refine iE ⟨J,YA,YB,E,E,E,E,?_,?_⟩
    .rw[e2];exact hP3
    rw[e2];have:=aAV hO.ip hO.cl et;omega
   |false=>
    refine aS E ?_;have et:kS (σ L k) L[k]=none:=Hl.1 (by rw[hb];decide);rw[et] at hP3;have e2:σ L (k+1)={ σ L k with o:=(σ L k).o++([119,114,111,110,103,32]++itoa ((k+1:Z):Int)++[10]) }:=by rw[linK_succ,e1];unfold ä;rw[et]
    have rk:υ ((k:Int)+1):=by unfold υ;omega
    have ik:=nZ rk;obtain⟨D,c,p,v,hO,hp,H⟩:=hP3;refine aI ?_;iterate 3 refine N ?_
    refine ε (zL ((k:Int)+1) rk _ (hT1.bel H.bel).pow) ?_;rintro e w4 ⟨rfl,k4⟩;replace H:=H.call k4;refine⟨_,J,?_⟩;refine aSo (t0:=[119,114,111,110,103,32]) (t1:=itoa ((k:Int)+1)) (t2:=[10]) H ?_;clear H;intro w5 H;have ho:(Option.getD none (σ L k)).o.length<=2500*k:=hol;refine ε (rP _ [[119,114,111,110,103,32],itoa ((k:Int)+1),[10]] 3 H.b2 hp (by simp only[En,Em,Ag,Ai,Au];omega) (show 3<=1000 by omega)) ?_;rintro e w6 ⟨p6,v6,rfl,hp6,H1⟩;refine⟨_,J,?_⟩;refine kL ⟨J,YA,YB,E,E,E,E,?_,?_⟩
    .rw[e2];refine⟨D,c,p6,v6,{ nd:=hO.nd,x:=hO.x,cl:=hO.cl,ip:=hO.ip,bad:=hO.bad,ly:=hO.ly,lc:=hO.lc,by_:=hO.by_,fr:=hO.fr },hp6,?_⟩;rw[show [[119,114,111,110,103,32],itoa ((k:Int)+1),[10]].flatten=[119,114,111,110,103,32]++itoa ((k+1:Z):Int)++[10] by simp] at H1;exact H1
    rw[e2];show (_++_:θ UInt8).length<=_;rw[yJ];simp only[Ag,Ai,Au];have:(itoa ((k:Int)+((1:Z):Int))).length<=20:=ik;omega
  clear b5 b17 b18 b19 hs hd hP hol;obtain⟨hs,hd,b5,b17,b18,b19,hP,hol⟩:=hI;refine aI (aG ?_);repeat refine N ?_
  exact aU ⟨L.length-(k+1),O,k+1,O,O,YA,YB,E,E,E,Ae E YC,hP,hol⟩
 obtain rfl:k=L.length:=by have:=Xg hc;omega
 refine bL (dQ ?_);obtain⟨D,c,p,v,hO,hp,H⟩:=hP;refine aD ?_;iterate 3 refine N ?_
 refine ε (aCe (σ L L.length).o H J) ?_;rintro e w3 ⟨rfl,k3⟩;refine⟨_,J,?_⟩;iterate 2 refine N ?_
 refine aC ?_;exact aQ (aN YB (iP J E E) ⟨J,k1.trans (k3.mono k1.size)⟩)
abbrev rpL(B cb ib:Z)(fr:Int)(D:Z->Nd×Ad)(c:Li):θ It:=
 [τ 46 cb 297 297 (kZ fr D),τ 52 ib 14 14 (jW c.rd c.bad (κ c.lo c.LL.length c.lc)),oU B D,fU B 81 3 (κ c.lo c.LL.length c.lc) c.LL.length (qP QW 3 c.LL),CY (QV B) c.LL]
def aEM(w0 w:ξ)(cb ib:Z)(s:Pl):Prop:=∃(D:Z->Nd×Ad) (c:Li),PlOK s D c/\Cx w0 w (rpL w0.heap.size cb ib s.c.fr D c)
abbrev RpB(A:Act)(cb ib g n cap k:Z)(o x:θ UInt8)(wg m wc:Z):Prop:=A.tmps.size=282/\A.defers=[]/\A.eval (.tmp 6)=φ (β ⟨cb,0,none⟩)/\A.eval (.tmp 7)=φ (β ⟨ib,0,none⟩)/\A.eval (.tmp 68)=κ (β ⟨g,0,none⟩) n cap/\A.eval (.tmp 69)=γ ζ (n:Z)/\A.eval (.tmp 70)=γ ζ (k:Z)/\A.eval (.tmp 8)=tV o/\A.eval (.tmp 9)=γ ζ (k:Z)/\A.eval (.tmp 10)=tV x/\A.eval (.tmp 11)=κ (β ⟨wg,0,none⟩) (m+1) wc/\A.eval (.tmp 12)=γ ζ (m+1:Z)/\A.eval (.tmp 13)=Δ false
theorem aDq(l:θ UInt8)(w:ξ):Ξ μ 6 #[tV l] w λe w'=>e=.returned (.tuple #[tV (uQ l),.int .i64 (wX l)])/\Below w.heap.size w w':=by
 refine bC Tryz.func6 J 282 J Yd (λA hs hd hb=>?_);have b0:A.eval (.tmp 0)=tV l:=hb 0 _ J;clear hb;have H:=Bl w;refine aD (aG ?_);iterate 2 refine N ?_
 refine aC<|aH<|aD<|qa ?_;refine qg (jS _ J E _) ?_;by_cases h1:20000<l.length
 .refine ψ ?_;refine aC<|aS E ?_;refine aD ?_;iterate 2 refine N ?_
  refine aC ?_;have eO:uQ l=[]:=by unfold uQ;rw[η h1]
  have eE:wX l=1:=by unfold wX;rw[η h1]
  exact aQ (fF (aN YB (iP J E E) ⟨by rw[eO,eE],Af _ _⟩))
 have hl:l.length<=100000:=O;refine Θ ?_;refine aC<|aO E ?_;refine aR<|aD<|bI rfl Yw (λK hK=>Q7 (t0:=[]) rfl rfl ?_);intro w1 m1 k1 z1;replace H:=H.add k1 (τ _ _ _ _ _) m1 (λj (e:j=_)=>Bq e.symm);refine hK _ _ ?_;clear hK K;refine N ?_;refine aC<|lS (λA W=>∃(g cap:Z),A.tmps.size=282/\A.defers=[]/\A.eval (.tmp 4)=κ (β ⟨g,0,none⟩) (ο 10 l).length cap/\Cx w W [τ 9 g (ο 10 l).length cap (jE (ο 10 l))]) ?_ (λC W3 hI=>?_)
 .refine aD<|qa ?_;refine aC<|aJ ?_;refine bR (λr A W=>∃(i g cap:Z),i<=l.length/\l.length-i<=r/\A.tmps.size=282/\A.defers=[]/\A.eval (.tmp 0)=tV l/\A.eval (.tmp 4)=κ (β ⟨g,0,none⟩) (ο 10 (l.take i)).length cap/\A.eval (.tmp 5)=γ ζ (i:Z)/\Cx w W [τ 9 g (ο 10 (l.take i)).length cap (jE (ο 10 (l.take i)))]) l.length
   ⟨0,_,1,Xz _,O,YA,YB,E,E,E,H⟩ (λr B W hI=>?_)
  clear b0 hs hd H;obtain⟨i,g,cap,hi,hir,hs,hd,b0,b4,b5,H⟩:=hI;refine aH<|aD (aG ?_);iterate 2 refine N ?_
  refine qg (jS _ J E _) ?_;refine N ?_;refine aC<|fB (λhc=>?_) (λhc=>?_)
  .have hin:i<l.length:=by have:=Xu hc;omega
   have et:l.take (i+1)=l.take i++[l[i]]:=(Fw hin).symm;have el:l=l.take i++([l[i]]++l.drop (i+1)):=by rw[<-Ce,Fw hin,uV]
   have lt:(l.take i).length=i:=by rw[Ea];omega
   have hsl:=uB 10 (l.take i);obtain⟨Q,a,e1,e2,e3⟩:=OW 10 (l.take i);refine aR<|lS (λA W=>∃(g cap:Z),A.tmps.size=282/\A.defers=[]/\A.eval (.tmp 0)=tV l/\A.eval (.tmp 4)=κ (β ⟨g,0,none⟩) (ο 10 (l.take (i+1))).length cap/\A.eval (.tmp 5)=γ ζ (i:Z)/\Cx w W [τ 9 g (ο 10 (l.take (i+1))).length cap (jE (ο 10 (l.take (i+1))))]) ?_ (λC W2 hI=>?_)
   .refine aJ<|aD ?_;iterate 2 refine N ?_
    refine qg (lK (l:=l) (k:=i) _ _ J E E J hin _) ?_;by_cases hx:l[i]=10
    .refine qg (jR (b:=true) _ _ J E E (Xt (by rw[hx];rfl)) _) ?_;refine aC<|aS E ?_;refine aI<|qa ?_;refine bI J Yw (λK hK=>Q7 (t0:=[]) J J ?_);intro w2 m2 k2 z2;replace H:=H.add k2 (τ _ _ _ _ _) m2 (λj (e:j=_)=>Bq e.symm);refine hK _ _ ?_;clear hK K;refine aHW H O ?_;clear H;intro g' cap' w3 H;refine N ?_;have e4:ο 10 (l.take (i+1))=ο 10 (l.take i)++[[]]:=by rw[et,hx,e2,e1]
     refine kL ⟨J,g',cap',YA,YB,E,?_,E,?_⟩
     .rw[e4,Ag];exact E
     rw[e4,Ag];exact H
    refine qg (jR (b:=false) _ _ J E E (Xf (λh=>hx (Fx.1 (by have h:((l[i].toNat:Z):Int)=10:=h;show _=10;omega)))) _) ?_;refine aC<|aO E ?_;have e4:ο 10 (l.take (i+1))=Q++[a++[l[i]]]:=by rw[et,e3 _ hx]
    rw[e1] at b4 H;have eQ:∀b:θ UInt8,(Q++[b]).length=Q.length+1:=λb=>Ag;rw[eQ] at b4;have hq:Q.length<=100000:=by rw[e1,eQ] at hsl;omega
    have hla:a.length<=100000:=by have:=P6 10 (l.take i) a (by rw[e1];exact List.mem_append_right _ Ee);omega
    obtain⟨x,hxd⟩:∃x,x=l[i]:=⟨_,rfl⟩;rw[<-hxd] at el e4;replace H:=H.drew;have hS:Its [τ 9 g (Q++[a]).length cap (jE (Q++[a]))] W.drew:=Aj H.o0 (Ak _);refine fI (S:=Its [τ 9 g (Q++[a]).length cap (jE (Q++[a]))]) (.mv 0 (.mv 1 (.mv 2 (.mv 3 (.mv 4 (.rd 5 (.mv 6 (.mv 7 (.mv 8 (.mv 9 (.mv 10 (.mv 11 (.mv 12 (.go 13 .fin)))))))))))))) [13] Yl Yl ?_;iterate 3 refine Λ ?_
    refine Γ J (λw=>(kT _ _ J E E O O w).trans (by rw[show ((Q.length+1:Z):Int)-1=((Q.length:Z):Int) by omega])) ?_;refine Γ J (λw=>dD (i:=Q.length) _ _ _ _ J SlcK.out SizK.out E E J O w) ?_;refine á J hS (λ_ H=>aT (v:=tV a) _ _ J OneK.out E H.v0 (by rw[eQ];omega) (by rw[show 0+Q.length*1=Q.length by omega,VV])) ?_;iterate 3 refine Λ ?_
    refine Γ J (λw=>nA _ _ J E E O O w) ?_;refine Γ J (λw=>EI (p:=l.take i) (m:=[x]) (q:=l.drop (i+1)) _ _ _ J (by rw[<-el];exact E) E E (by rw[lt]) (by rw[lt];rfl) w) ?_;refine Γ J (λw=>gZ _ _ J E E (by simp only[Ai,Au];omega) w) ?_;refine Γ J (λw=>dD (i:=Q.length) _ _ _ _ J SlcK.out SizK.out E E J O w) ?_;refine dK J Yw (λK hK=>iO _ _ _ _ J OneK.out E E H.v0 (by rw[eQ];omega) rfl rfl rfl (λw3 m3 k3 z3=>hK _ (λh=>ρ h Yc) ?_));replace H:=H.a0.s k3 (m3.congr (by rw[show 0+Q.length*1=Q.length by omega];exact aCl Q a (a++[x])));refine BK ⟨J,g,cap,YA,YB,E,?_,E,?_⟩
    .rw[e4,eQ];exact E
    rw[e4,eQ, <-eQ a];exact H
   clear b0 b4 b5 hs hd H;obtain⟨g',cap',hs,hd,b0,b4,b5,H⟩:=hI;refine aI (aG ?_);repeat refine N ?_
   exact aU ⟨l.length-(i+1),O,i+1,g',cap',O,O,YA,YB,E,E,Ae E YC,H⟩
  obtain rfl:i=l.length:=by have:=Xg hc;omega
  rw[Hz] at b4 H;exact bL (Q8 ⟨J,g,cap,YA,YB,E,H⟩)
 clear b0 hs hd H;obtain⟨g,cap,hs,hd,b4,H⟩:=hI;obtain⟨L,eL⟩:∃L,L=ο 10 l:=⟨_,rfl⟩;have hLl:=uB 10 l;have hLm:=P6 10 l;rw[<-eL] at b4 H hLl hLm;refine aH<|aD (aG ?_);iterate 2 refine N ?_
 by_cases h2:400<L.length
 .refine ψ ?_;refine aC<|aS E ?_;refine aD ?_;iterate 2 refine N ?_
  refine aC ?_;have eO:uQ l=[]:=by unfold uQ;rw[δ h1, <-eL,η h2]
  have eE:wX l=6:=by unfold wX;rw[δ h1, <-eL,η h2]
  exact aQ (fF (aN YB (iP J E E) ⟨by rw[eO,eE],H.bel⟩))
 have eO:uQ l=(σ L L.length).o:=by unfold uQ;rw[δ h1, <-eL,δ h2]
 have eE:wX l=0:=by unfold wX;rw[δ h1, <-eL,δ h2]
 rw[eO,eE];refine Θ ?_;refine aC<|aO E ?_;refine aR ?_;have hLines:=H.v0;obtain⟨V,eV⟩:∃V,V=W3:=⟨_,rfl⟩;have hbel:Below w.heap.size w V:=by rw[eV];exact H.bel
 rw[<-eV] at hLines ⊢;clear H;have H:=Bl V;refine aD<|qg (TC rfl (λ_=>rfl) _) ?_;refine ε (yP _ _ TP) ?_;rintro e w2 ⟨D,rfl,hD,G⟩;refine⟨_,J,?_⟩;replace H:=H.plus G;refine gQ H ?_;clear H;intro w3 H z3;refine gH H.a0 aZ (oN _ _) ?_;clear H;intro w4 H z4;refine aC<|aD<|qg (SY rfl (λ_=>rfl) _) ?_;refine gQ H ?_;clear H;intro w5 H z5;refine gH H.a0 aZ (aOw _ _ _ _ _) ?_;clear H;intro w6 H z6;refine aC<|aD<|qa ?_;refine aC ?_;obtain⟨cb,ecb⟩:∃cb,cb=w2.heap.size:=⟨_,rfl⟩;obtain⟨ib,eib⟩:∃ib,ib=w4.heap.size:=⟨_,rfl⟩;have hO:PlOK MV D TV:={ nd:=hD,x:=rfl,cl:=begC_ok TP,ip:=⟨λ_ _=>ó,ï,λ_ h=>nomatch h⟩,bad:=⟨Bp _,by decide⟩,ly:=Xz _,lc:=Xr _,by_:=(λ_ h=>nomatch h),fr:=⟨Bp _,by decide⟩ };have hP:aEM V w6 cb ib MV:=⟨D,TV,hO,by rw[ecb,eib];exact ð _ H.f1⟩;rw[<-ecb, <-eib];refine aH<|aD ?_;iterate 3 refine N ?_
 refine aC<|aJ ?_;refine bR (λr A W=>∃(k:Z),k<=L.length/\L.length-k<=r/\A.tmps.size=282/\A.defers=[]/\A.eval (.tmp 6)=φ (β ⟨cb,0,none⟩)/\A.eval (.tmp 7)=φ (β ⟨ib,0,none⟩)/\A.eval (.tmp 8)=tV (σ L k).o/\A.eval (.tmp 68)=κ (β ⟨g,0,none⟩) L.length cap/\A.eval (.tmp 69)=γ ζ (L.length:Z)/\A.eval (.tmp 70)=γ ζ (k:Z)/\aEM V W cb ib (σ L k)/\(σ L k).o.length<=2500*k) L.length
  ⟨0,Xz _,O,YA,YB,E,E,E,E,E,E,hP,Xr _⟩ (λr B W hI=>?_)
 clear b4 hs hd H hP;obtain⟨k,hk,hkr,hs,hd,b6,b7,b8,b68,b69,b70,hP,hol⟩:=hI;refine aD (aG ?_);refine N ?_;refine aC<|aH<|fB (λhc=>?_) (λhc=>?_)
 .have hin:k<L.length:=by have:=Xu hc;omega
  have e1:L.getD k []=L[k]:=by rw[Bh,Bf hin];rfl
  obtain⟨x,ex⟩:∃x,x=L[k]:=⟨_,rfl⟩;rw[<-ex] at e1;have hln:=hLm L[k] (Dj hin);rw[<-ex] at hln;obtain⟨s,es⟩:∃s,s=σ L k:=⟨_,rfl⟩;have eS:σ L (k+1)=ä s k x:=by rw[linK_succ,e1,es]
  rw[<-es] at b8 hP hol;refine aR<|lS (λA W=>A.tmps.size=282/\A.defers=[]/\A.eval (.tmp 6)=φ (β ⟨cb,0,none⟩)/\A.eval (.tmp 7)=φ (β ⟨ib,0,none⟩)/\A.eval (.tmp 68)=κ (β ⟨g,0,none⟩) L.length cap/\A.eval (.tmp 69)=γ ζ (L.length:Z)/\A.eval (.tmp 70)=γ ζ (k:Z)/\A.eval (.tmp 8)=tV (σ L (k+1)).o/\aEM V W cb ib (σ L (k+1))/\(σ L (k+1)).o.length<=2500*(k+1)) ?_ (λC W4 hI=>?_)
  .refine aJ ?_;have hbelW:Below V.heap.size V W:=by obtain⟨_,_,_,H⟩:=hP;exact H.bel
   refine aD<|qa ?_;refine qg (dD (i:=k) _ _ _ _ J SlcK.out SizK.out E E J hin _) ?_;refine qg (aT (v:=tV x) _ _ J OneK.out E (hLines.below hbelW) O (by unfold jE;rw[show 0+k*1=k by omega,e1])) ?_;iterate 2 refine N ?_
   refine aC<|aD<|qa ?_;refine ε (aGh x O _) ?_;rintro e w7 ⟨wg,wc,rfl,G⟩;obtain⟨kw,q,ek⟩:∃kw q,ο 32 x=kw::q:=by
    cases h:ο 32 x with
    |nil=>exact ρ h (ë _ _)
    |cons kw q=>exact⟨kw,q,rfl⟩
   rw[ek] at G ⊢;refine⟨κ (β ⟨wg,0,none⟩) (q.length+1) wc,J,?_⟩;refine N ?_;refine aC<|aD ?_;iterate 3 refine N ?_
   refine aC<|aD<|qa ?_;refine aC<|lS (λA W=>∃(ok:Bool) (s':Pl),A.tmps.size=282/\A.defers=[]/\A.eval (.tmp 6)=φ (β ⟨cb,0,none⟩)/\A.eval (.tmp 7)=φ (β ⟨ib,0,none⟩)/\A.eval (.tmp 68)=κ (β ⟨g,0,none⟩) L.length cap/\A.eval (.tmp 69)=γ ζ (L.length:Z)/\A.eval (.tmp 70)=γ ζ (k:Z)/\A.eval (.tmp 9)=γ ζ (k:Z)/\A.eval (.tmp 13)=Δ ok/\A.eval (.tmp 8)=tV s'.o/\((kS s x=β s'/\ok=true)\/(kS s x=none/\ok=false/\s'=s))/\aEM V W cb ib s') ?_ (λC W5 hI=>?_)
   .refine aJ<|aD<|qa ?_;by_cases h0:x=[]
    .refine qg (gN (b:=true) (t:=[]) _ _ J E J (Xt h0) _) ?_;refine N ?_;refine aC<|aS E ?_;refine aI<|qa ?_;obtain⟨D,c,hO,H⟩:=hP;exact kL ⟨J,true,s,YA,YB,E,E,E,E,E,E,E,E,Or.inl ⟨by unfold kS;rw[η h0],J⟩,D,c,hO,H.call G.bel⟩
    refine qg (gN (b:=false) (t:=[]) _ _ J E J (Xf h0) _) ?_;refine N ?_;refine aC<|aO E ?_;have eP:kS s x=if kw=[116,117,110,101] then è s q else if kw=[114,101,97,100] then rE s q else if kw=[98,97,100] then yU s q else if kw=[103,111,111,100] then NI s q else if kw=[108,105,101] then sI s q else if kw=[102,114,97,109,101] then vL s q else none:=by unfold kS;rw[δ h0,ek]
    have hwl:=uB 32 x;rw[ek] at hwl;have hq:q.length<=1000000:=by rw[Ai] at hwl;omega
    have hw1:Vh 9 w7 wg (q.length+1) wc (jE (kw::q)):=G.v0;obtain⟨D,c,hO,H0⟩:=hP;have H:=H0.plus G;clear H0 G;refine lS (λA W=>W=w7/\RpB A cb ib g L.length cap k s.o x wg q.length wc/\A.eval (.tmp 82)=Δ (decide (kw=[116,117,110,101]/\q.length=4))) ?_ (λC W6 hI=>?_)
    .refine aI<|qa ?_;refine qg (dD (i:=0) _ _ _ _ J SlcK.out SizK.out E E J O _) ?_;refine qg (aT (v:=tV kw) _ _ J OneK.out E hw1 O J) ?_;by_cases c1:kw=[116,117,110,101]
     .refine qg (gN (b:=true) (t:=[116,117,110,101]) _ _ J E J (Xt c1) _) ?_;iterate 2 refine N ?_
      refine qg (bK (b:=decide (kw=[116,117,110,101]/\q.length=4)) _ _ J E E (Dc.2 ⟨λh=>⟨c1,O⟩,λh=>by omega⟩) _) ?_;refine ν ?_;refine N ?_;exact kL ⟨J,J,⟨YA,YB,E,E,E,E,E,E,E,E,E,E,E⟩,E⟩
     refine qg (gN (b:=false) (t:=[116,117,110,101]) _ _ J E J (Xf c1) _) ?_;refine N ?_;iterate 2 refine bP ?_
     refine ι ?_;refine N ?_;exact kL ⟨J,J,⟨YA,YB,E,E,E,E,E,E,E,E,E,E,E⟩,Ae E (by rw[Xf (λh=>c1 h.1)])⟩
    clear b6 b7 b8 b68 b69 b70 hs hd;obtain⟨rfl,⟨hs,hd,b6,b7,b68,b69,b70,b8,b9,b10,b11,b12,b13⟩,b82⟩:=hI;have hcap:q.length+1<=wc:=by obtain⟨_,_,_,h,_⟩:=hw1;exact h
    have hrw:RdS xH 1 W6 (β ⟨wg,0+1,none⟩) q:=λ_=>⟨wg,1,J,λi c hi j hj=>by have hl:=(Gi.1 hi).1;have:=hw1.cell (i:=i+1) O;rw[show 1+i*1+j=i+1 by omega,this];unfold jE xH;rw[Bh,List.getElem?_cons_succ,hi];rfl⟩;by_cases hA:kw=[116,117,110,101]/\q.length=4
    .refine aS (b82.trans (by rw[Xt hA])) ?_;rw[η hA.1] at eP;refine aD (aG ?_);refine N ?_;refine qg (X6 _ J E O _) ?_;refine ε (CS q (β ⟨wg,0+1,none⟩) _ W6 hrw hq) ?_;rintro e w8 ⟨u,rfl,hnil,hu,k8⟩;generalize hb:(ω q).isSome=t;refine⟨î #[u,Δ t],J,?_⟩;iterate 5 refine N ?_
     refine aC<|aD<|qa ?_;refine aC ?_;cases t with
     |false=>
      have hN:ω q=none:=Hl.1 (by rw[hb];decide);have e0:kS s x=none:=by rw[eP];unfold è;rw[hN]
      refine aO E ?_;exact iE ⟨J,false,s,YA,YB,E,E,E,E,E,E,E,E,Ab ⟨e0,J,J⟩,D,c,hO,(H.call k8).tl⟩
     |true=>
      obtain⟨v,hN⟩:=Gb.1 hb;have hv4:v.length=4:=(J8 hN).trans hA.2;obtain⟨r0,c0,rfl,hcl⟩:=JD (hu v hN) O;obtain⟨x0,x1,x2,x3,rfl⟩:∃x0 x1 x2 x3,v=[x0,x1,x2,x3]:=by
       match v,hv4 with
       |[x0,x1,x2,x3],_=>exact⟨x0,x1,x2,x3,rfl⟩
      have hcell:∀i,i<4->w8.drew.cell? ⟨r0,0+i*1,none⟩=β (γ ζ (gL [x0,x1,x2,x3] i)):=λi hi=>by rw[show 0+i*1=i by omega];exact hcl i hi
      have e0:kS s x=β { s with c:=begC ⟨x0,x1,x2,x3⟩ }:=by rw[eP];unfold è;rw[hN]
      have htn:Tn.Ok ⟨x0,x1,x2,x3⟩:=⟨rV hN 0,rV hN 1,rV hN 2,rV hN 3⟩;refine aS E ?_;replace H:=(H.call k8).drew;have hS:(λW'=>Below w8.drew.heap.size w8.drew W') w8.drew:=Af _ _;refine fI (S:=λW'=>Below w8.drew.heap.size w8.drew W') (.mv 0 (.mv 1 (.rd 2 (.mv 3 (.mv 4 (.rd 5 (.mv 6 (.mv 7 (.rd 8 (.mv 9 (.mv 10 (.rd 11 (.mv 12 (.go 13 (.go 14 (.mv 15 .fin)))))))))))))))) [14] Yl Yl ?_;refine Λ ?_;refine Γ J (λw=>dD (i:=0) _ _ _ _ J SlcK.out SizK.out E E J (show 0<4 by omega) w) ?_;refine á J hS (λ_ H=>gP OneK.out (aP (hcell 0 O) H) J E) ?_;refine Λ ?_;refine Γ J (λw=>dD (i:=1) _ _ _ _ J SlcK.out SizK.out E E J (show 1<4 by omega) w) ?_;refine á J hS (λ_ H=>gP OneK.out (aP (hcell 1 O) H) J E) ?_;refine Λ ?_;refine Γ J (λw=>dD (i:=2) _ _ _ _ J SlcK.out SizK.out E E J (show 2<4 by omega) w) ?_;refine á J hS (λ_ H=>gP OneK.out (aP (hcell 2 O) H) J E) ?_;refine Λ ?_;refine Γ J (λw=>dD (i:=3) _ _ _ _ J SlcK.out SizK.out E E J (show 3<4 by omega) w) ?_;refine á J hS (λ_ H=>gP OneK.out (aP (hcell 3 O) H) J E) ?_;refine Γ J (λw=>TD (a:=x0) (b:=x1) (c:=x2) (d:=x3) J E E E E w) ?_;refine j_c (yP ⟨x0,x1,x2,x3⟩ _ htn) ?_;rintro e w9 ⟨D',rfl,hD',G2⟩;refine⟨_,J,λ_ h=>h.trans (G2.bel.mono h.size),?_⟩;have hsz:=H.size;replace H:=xJ (H.plus G2) hsz;refine aUc H.v2 (oN _ _) (λw3 m3 k3 z3=>⟨λh=>ρ h Yc,?_⟩);replace H:=H.a2.s k3 (m3.congr aZ);refine Λ ?_;refine BK ⟨J,true,{ s with c:=begC ⟨x0,x1,x2,x3⟩ },YA,YB,E,E,E,E,E,E,E,E,Aa ⟨e0,rfl⟩,D',c,{ nd:=hD',x:=hO.x,cl:=begC_ok htn,ip:=hO.ip,bad:=hO.bad,ly:=hO.ly,lc:=hO.lc,by_:=hO.by_,fr:=⟨Bp _,by show (0:Int)<=1073741824;decide⟩ },?_⟩;exact (H.f1.tl.b2).sub (.cons_cons _ (.cons_cons _ (.cons_cons _ (.cons _ (.cons_cons _ (.cons_cons _ (El _)))))))
    refine aO (b82.trans (by rw[Xf hA])) ?_;refine lS (λA W=>W=W6/\RpB A cb ib g L.length cap k s.o x wg q.length wc/\A.eval (.tmp 112)=Δ (decide (kw=[114,101,97,100]/\q.length=4))) ?_ (λC W6 hI=>?_)
    .refine aI (aG ?_);refine N ?_;refine qg (dD (i:=0) _ _ _ _ J SlcK.out SizK.out E E J O _) ?_;refine qg (aT (v:=tV kw) _ _ J OneK.out E hw1 O J) ?_;by_cases c1:kw=[114,101,97,100]
     .refine qg (gN (b:=true) (t:=[114,101,97,100]) _ _ J E J (Xt c1) _) ?_;iterate 2 refine N ?_
      refine qg (bK (b:=decide (kw=[114,101,97,100]/\q.length=4)) _ _ J E E (Dc.2 ⟨λh=>⟨c1,O⟩,λh=>by omega⟩) _) ?_;refine ν ?_;refine N ?_;exact kL ⟨J,J,⟨YA,YB,E,E,E,E,E,E,E,E,E,E,E⟩,E⟩
     refine qg (gN (b:=false) (t:=[114,101,97,100]) _ _ J E J (Xf c1) _) ?_;refine N ?_;iterate 2 refine bP ?_
     refine ι ?_;refine N ?_;exact kL ⟨J,J,⟨YA,YB,E,E,E,E,E,E,E,E,E,E,E⟩,Ae E (by rw[Xf (λh=>c1 h.1)])⟩
    clear b6 b7 b8 b9 b10 b11 b12 b13 b68 b69 b70 b82 hs hd;obtain⟨rfl,⟨hs,hd,b6,b7,b68,b69,b70,b8,b9,b10,b11,b12,b13⟩,b112⟩:=hI;by_cases hB:kw=[114,101,97,100]/\q.length=4
    .refine aS (b112.trans (by rw[Xt hB])) ?_;have eR:kS s x=rE s q:=by rw[eP,hB.1,δ Yc,η J]
     obtain⟨k0,q',rfl⟩:∃k0 q',q=k0::q':=by
      cases q with
      |nil=>exact ρ hB.2 Yc
      |cons k0 q'=>exact⟨k0,q',rfl⟩
     have hq3:q'.length=3:=by have:=hB.2;rw[Ai] at this;omega
     have hB2:=hB.2;have e2:(k0::q').length+1-2=q'.length:=O;refine aD (aG ?_);refine N ?_;refine qg (dD (i:=1) _ _ _ _ J SlcK.out SizK.out E E J O _) ?_;refine qg (aT (v:=tV k0) _ _ J OneK.out E hw1 O J) ?_;refine ε (uU k0 3 O _) ?_;rintro e w8 ⟨rfl,k8⟩;refine⟨_,J,?_⟩;refine N ?_;refine aC<|aD<|qa ?_;refine qg ((zM (i:=2) _ _ J E E J O O _).trans (by rw[kC,e2])) ?_;refine ε (CS q' (β ⟨wg,0+2,none⟩) _ w8 (VC (L8 hrw) k8) O) ?_;rintro e w9 ⟨u,rfl,hnil,hu,k9⟩;generalize hb:(ω q').isSome=t;refine⟨î #[u,Δ t],J,?_⟩;iterate 5 refine N ?_
     refine aC<|aD<|qa ?_;cases hD:Ω k0 3 with
     |none=>
      have eD:digI k0 3= -1:=by unfold digI;rw[hD]
      refine qg (fG (b:=false) _ _ J E E (Xf (by rw[eD];decide)) _) ?_;refine N ?_;refine bP ?_;refine ι ?_;refine aC<|aO E ?_;exact iE ⟨J,false,s,YA,YB,E,E,E,E,E,E,E,E,Ab ⟨by rw[eR];exact aBD hD,J,J⟩,D,c,hO,((H.call k8).call k9).tl⟩
     |some i=>
      have hi:=vY hD;have eD:digI k0 3=(i:Z):=by unfold digI;rw[hD]
      refine qg (fG (b:=true) _ _ J E E (Xt (by rw[eD];omega)) _) ?_;iterate 2 refine N ?_
      refine ν ?_;refine aC ?_;cases t with
      |false=>have hN:ω q'=none:=Hl.1 (by rw[hb];decide);refine aO E ?_;exact iE ⟨J,false,s,YA,YB,E,E,E,E,E,E,E,E,Ab ⟨by rw[eR];exact aBE hN,J,J⟩,D,c,hO,((H.call k8).call k9).tl⟩
      |true=>
       obtain⟨l,hN⟩:=Gb.1 hb;have hl3:l.length=3:=(J8 hN).trans hq3;obtain⟨r0,c0,rfl,hcl⟩:=JD (hu l hN) O;obtain⟨x0,x1,x2,rfl⟩:∃x0 x1 x2,l=[x0,x1,x2]:=by
        match l,hl3 with
        |[x0,x1,x2],_=>exact⟨x0,x1,x2,rfl⟩
       have hcell:∀i,i<3->w9.drew.cell? ⟨r0,0+i*1,none⟩=β (γ ζ (gL [x0,x1,x2] i)):=λi hi=>by rw[show 0+i*1=i by omega];exact hcl i hi
       refine aS E ?_;replace H:=((H.call k8).call k9).drew;have hS:(λW'=>Below w9.drew.heap.size w9.drew W') w9.drew:=Af _ _;refine fI (S:=λW'=>Below w9.drew.heap.size w9.drew W') (.mv 0 (.mv 1 (.mv 2 (.rd 3 (.mv 4 (.mv 5 (.rd 6 (.mv 7 (.mv 8 (.rd 9 (.mv 10 (.mv 11 (.mv 12 (.go 13 (.mv 14 .fin))))))))))))))) [13] Yl Yl ?_;iterate 2 refine Λ ?_
       refine Γ J (λw=>dD (i:=0) _ _ _ _ J SlcK.out SizK.out E E J (show 0<3 by omega) w) ?_;refine á J hS (λ_ H=>gP OneK.out (aP (hcell 0 O) H) J E) ?_;refine Λ ?_;refine Γ J (λw=>dD (i:=1) _ _ _ _ J SlcK.out SizK.out E E J (show 1<3 by omega) w) ?_;refine á J hS (λ_ H=>gP OneK.out (aP (hcell 1 O) H) J E) ?_;refine Λ ?_;refine Γ J (λw=>dD (i:=2) _ _ _ _ J SlcK.out SizK.out E E J (show 2<3 by omega) w) ?_;refine á J hS (λ_ H=>gP OneK.out (aP (hcell 2 O) H) J E) ?_;refine Γ J (λw=>OJ (g:=gL [x0,x1,x2]) _ _ _ J E E E w) ?_;refine Λ ?_;refine Γ J (λw=>bB (i:=i) _ _ _ _ J ArrK.out SizK.out E E eD O w) ?_;refine aUc H.v2 (λ_ _=>rfl) (λw3 m3 k3 z3=>⟨λh=>ρ h Yc,?_⟩);replace H:=H.a2.s k3 (m3.congr (aOx O));refine Λ ?_;have e0:kS s x=β { s with x:={ s.x with rd:=λj q=>if j=i then gL [x0,x1,x2] q else s.x.rd j q } }:=by rw[eR];simp only[rE,hD,hN]
       have hrr:∀j a,υ (if j=i then gL [x0,x1,x2] a else s.x.rd j a):=λj a=>by
        split
        .exact rV hN a
        exact hO.ip.rd j a
       have hx:(⟨λj a=>if j=i then gL [x0,x1,x2] a else c.rd j a,c.bad,c.LL.map Lj.y⟩:Ip)={ s.x with rd:=λj q=>if j=i then gL [x0,x1,x2] q else s.x.rd j q }:=by rw[<-hO.x];rfl
       exact BK ⟨J,true,{ s with x:={ s.x with rd:=λj q=>if j=i then gL [x0,x1,x2] q else s.x.rd j q } },YA,YB,E,E,E,E,E,E,E,E,Aa ⟨e0,rfl⟩,D,{ c with rd:=λj a=>if j=i then gL [x0,x1,x2] a else c.rd j a },{ nd:=hO.nd,x:=hx,cl:=hO.cl,ip:=⟨hrr,hO.ip.bad,hO.ip.g⟩,bad:=hO.bad,ly:=hO.ly,lc:=hO.lc,by_:=hO.by_,fr:=hO.fr },H.tl⟩
    refine aO (b112.trans (by rw[Xf hB])) ?_;refine lS (λA W=>W=W6/\RpB A cb ib g L.length cap k s.o x wg q.length wc/\A.eval (.tmp 149)=Δ (decide (kw=[98,97,100]/\q.length=1))) ?_ (λC W6 hI=>?_)
    .refine aI (aG ?_);refine N ?_;refine qg (dD (i:=0) _ _ _ _ J SlcK.out SizK.out E E J O _) ?_;refine qg (aT (v:=tV kw) _ _ J OneK.out E hw1 O J) ?_;by_cases c1:kw=[98,97,100]
     .refine qg (gN (b:=true) (t:=[98,97,100]) _ _ J E J (Xt c1) _) ?_;iterate 2 refine N ?_
      refine qg (bK (b:=decide (kw=[98,97,100]/\q.length=1)) _ _ J E E (Dc.2 ⟨λh=>⟨c1,O⟩,λh=>by omega⟩) _) ?_;refine ν ?_;refine N ?_;exact kL ⟨J,J,⟨YA,YB,E,E,E,E,E,E,E,E,E,E,E⟩,E⟩
     refine qg (gN (b:=false) (t:=[98,97,100]) _ _ J E J (Xf c1) _) ?_;refine N ?_;iterate 2 refine bP ?_
     refine ι ?_;refine N ?_;exact kL ⟨J,J,⟨YA,YB,E,E,E,E,E,E,E,E,E,E,E⟩,Ae E (by rw[Xf (λh=>c1 h.1)])⟩
    clear b6 b7 b8 b9 b10 b11 b12 b13 b68 b69 b70 hs hd;obtain⟨rfl,⟨hs,hd,b6,b7,b68,b69,b70,b8,b9,b10,b11,b12,b13⟩,b149⟩:=hI;by_cases hC:kw=[98,97,100]/\q.length=1
    .refine aS (b149.trans (by rw[Xt hC])) ?_;have eR:kS s x=yU s q:=by rw[eP,hC.1,δ Yc,δ Yc,η J]
     obtain⟨k0,rfl⟩:=List.length_eq_one_iff.1 hC.2;have hC2:=hC.2;refine aD (aG ?_);refine N ?_;refine qg (dD (i:=1) _ _ _ _ J SlcK.out SizK.out E E J O _) ?_;refine qg (aT (v:=tV k0) _ _ J OneK.out E hw1 O J) ?_;refine ε (uU k0 3 O _) ?_;rintro e w8 ⟨rfl,k8⟩;refine⟨_,J,?_⟩;refine N ?_;refine aC<|aD<|qa ?_;cases hD:Ω k0 3 with
     |none=>
      have eD:digI k0 3= -1:=by unfold digI;rw[hD]
      have e0:kS s x=none:=by rw[eR];show (Ω k0 3).map _=none;rw[hD];rfl
      refine qg (fG (b:=false) _ _ J E E (Xf (by rw[eD];decide)) _) ?_;refine aC<|aO E ?_;exact iE ⟨J,false,s,YA,YB,E,E,E,E,E,E,E,E,Ab ⟨e0,J,J⟩,D,c,hO,(H.call k8).tl⟩
     |some i=>
      have hi:=vY hD;have eD:digI k0 3=(i:Z):=by unfold digI;rw[hD]
      have e0:kS s x=β { s with x:={ s.x with bad:=(i:Z) } }:=by rw[eR];show (Ω k0 3).map _=_;rw[hD];rfl
      refine qg (fG (b:=true) _ _ J E E (Xt (by rw[eD];omega)) _) ?_;refine aC<|aS E ?_;refine aI ?_;iterate 2 refine N ?_
      refine kX (H.call k8).a2 (q:=0+12) (g':=jW c.rd (digI k0 3) (κ c.lo c.LL.length c.lc)) (CV _ _ _ _) ?_;clear H;intro w9 H z9;rw[eD] at H;refine N ?_;have hx:(⟨c.rd,(i:Z),c.LL.map Lj.y⟩:Ip)={ s.x with bad:=(i:Z) }:=by rw[<-hO.x];rfl
      exact kL ⟨J,true,{ s with x:={ s.x with bad:=(i:Z) } },YA,YB,E,E,E,E,E,E,E,E,Aa ⟨e0,rfl⟩,D,{ c with bad:=(i:Z) },{ nd:=hO.nd,x:=hx,cl:=hO.cl,ip:=⟨hO.ip.rd,by show υ ((i:Z):Int);unfold υ;omega,hO.ip.g⟩,bad:=⟨by show (-1:Int)<=(i:Z);omega,by show ((i:Z):Int)<=3;omega⟩,ly:=hO.ly,lc:=hO.lc,by_:=hO.by_,fr:=hO.fr },H.tl⟩
    refine aO (b149.trans (by rw[Xf hC])) ?_;refine aD (aG ?_);refine N ?_;by_cases hG:x=[103,111,111,100]
    .obtain⟨hG1,rfl⟩:=(word_iff ek Yc).1 hG;have e0:kS s x=β { s with x:={ s.x with bad:= -1,ly:=[] } }:=by rw[eP,hG1,δ Yc,δ Yc,δ Yc,η rfl];rfl
     refine qg (gN (b:=true) (t:=[103,111,111,100]) _ _ J E J (Xt hG) _) ?_;refine N ?_;refine aC<|aS E ?_;refine aI<|qa ?_;refine kX H.a2 (q:=0+12) (g':=jW c.rd (-1) (κ c.lo c.LL.length c.lc)) (CV _ _ _ _) ?_;clear H;intro w8 H z8;refine N ?_;refine kX H.a2 (q:=0+13) (g':=jW c.rd (-1) (κ none 0 0)) (zR _ _ _ _) ?_;clear H;intro w9 H z9;refine N ?_;have hx:(⟨c.rd, -1,[]⟩:Ip)={ s.x with bad:= -1,ly:=[] }:=by rw[<-hO.x];rfl
     have hO':PlOK { s with x:={ s.x with bad:= -1,ly:=[] } } D ⟨c.rd, -1,[],none,0⟩:={ nd:=hO.nd,x:=hx,cl:=hO.cl,ip:=⟨hO.ip.rd,ï,(λ_ h=>nomatch h)⟩,bad:=⟨Bp _,by show (-1:Int)<=3;decide⟩,ly:=Xz _,lc:=Xr _,by_:=(λ_ h=>nomatch h),fr:=hO.fr };exact kL ⟨J,true,{ s with x:={ s.x with bad:= -1,ly:=[] } },YA,YB,E,E,E,E,E,E,E,E,Aa ⟨e0,rfl⟩,D,⟨c.rd, -1,[],none,0⟩,hO',ð _ H.tl⟩
    refine qg (gN (b:=false) (t:=[103,111,111,100]) _ _ J E J (Xf hG) _) ?_;refine N ?_;refine aC<|aO E ?_;refine lS (λA W=>W=W6/\RpB A cb ib g L.length cap k s.o x wg q.length wc/\A.eval (.tmp 171)=Δ (decide (kw=[108,105,101]/\3<=q.length))) ?_ (λC W6 hI=>?_)
    .refine aI<|qa ?_;refine qg (dD (i:=0) _ _ _ _ J SlcK.out SizK.out E E J O _) ?_;refine qg (aT (v:=tV kw) _ _ J OneK.out E hw1 O J) ?_;by_cases c1:kw=[108,105,101]
     .refine qg (gN (b:=true) (t:=[108,105,101]) _ _ J E J (Xt c1) _) ?_;iterate 2 refine N ?_
      refine qg (fG (b:=decide (kw=[108,105,101]/\3<=q.length)) _ _ J E E (Dc.2 ⟨λh=>⟨c1,O⟩,λh=>by omega⟩) _) ?_;refine ν ?_;refine N ?_;exact kL ⟨J,J,⟨YA,YB,E,E,E,E,E,E,E,E,E,E,E⟩,E⟩
     refine qg (gN (b:=false) (t:=[108,105,101]) _ _ J E J (Xf c1) _) ?_;refine N ?_;iterate 2 refine bP ?_
     refine ι ?_;refine N ?_;exact kL ⟨J,J,⟨YA,YB,E,E,E,E,E,E,E,E,E,E,E⟩,Ae E (by rw[Xf (λh=>c1 h.1)])⟩
    clear b6 b7 b8 b9 b10 b11 b12 b13 b68 b69 b70 hs hd;obtain⟨rfl,⟨hs,hd,b6,b7,b68,b69,b70,b8,b9,b10,b11,b12,b13⟩,b171⟩:=hI;by_cases hE:kw=[108,105,101]/\3<=q.length
    .refine aS (b171.trans (by rw[Xt hE])) ?_;have eR:kS s x=sI s q:=by rw[eP,hE.1,δ Yc,δ Yc,δ Yc,δ Yc,η J]
     obtain⟨p0,p1,p2,q',rfl⟩:∃p0 p1 p2 q',q=p0::p1::p2::q':=by
      match q,hE.2 with
      |p0::p1::p2::q',_=>exact⟨p0,p1,p2,q',rfl⟩
      |[],h=>exact ρ h Yc
      |[_],h=>exact ρ h (by show ¬3<=1;decide)
      |[_,_],h=>exact ρ h (by show ¬3<=2;decide)
     have hE2:=hE.2;have hql:(p0::p1::p2::q').length=q'.length+3:=rfl;have eb:s.x.bad=c.bad:=(æ Ip.bad hO.x).symm;have el:s.x.ly.length=c.LL.length:=by rw[<-hO.x];exact Ao ..
     have hly:=hO.ly;replace H:=H.drew;have hS:Its [τ 9 wg ((p0::p1::p2::q').length+1) wc (jE (kw::p0::p1::p2::q'))] W6.drew:=Aj H.o0 (Ak _);refine aH<|fI (S:=Its [τ 9 wg ((p0::p1::p2::q').length+1) wc (jE (kw::p0::p1::p2::q'))]) (.mv 0 (.mv 1 (.rd 2 (.mv 4 (.mv 5 (.rd 6 (.mv 8 (.mv 9 (.rd 10 (.go 3 (.go 7 (.go 11 (.mv 12 (.mv 13 (.mv 14 .fin))))))))))))))) [] Yl Yl (BB ?_);refine Λ ?_;refine Γ J (λw=>dD (i:=1) _ _ _ _ J SlcK.out SizK.out E E J O w) ?_;refine á J hS (λ_ H=>aT (v:=tV p0) _ _ J OneK.out E H.v0 O J) ?_;refine Λ ?_;refine Γ J (λw=>dD (i:=2) _ _ _ _ J SlcK.out SizK.out E E J O w) ?_;refine á J hS (λ_ H=>aT (v:=tV p1) _ _ J OneK.out E H.v0 O J) ?_;refine Λ ?_;refine Γ J (λw=>dD (i:=3) _ _ _ _ J SlcK.out SizK.out E E J O w) ?_;refine á J hS (λ_ H=>aT (v:=tV p2) _ _ J OneK.out E H.v0 O J) ?_;refine j_c (uU p0 4 O _) ?_;rintro e w8 ⟨rfl,k8⟩;replace H:=H.call k8;refine⟨_,J,λ_ _=>Aj H.o0 (Ak _),?_⟩;refine j_c (uU p1 3 O _) ?_;rintro e w9 ⟨rfl,k9⟩;replace H:=H.call k9;refine⟨_,J,λ_ _=>Aj H.o0 (Ak _),?_⟩;refine j_c (uU p2 9 O _) ?_;rintro e w10 ⟨rfl,k10⟩;replace H:=H.call k10;refine⟨_,J,λ_ _=>Aj H.o0 (Ak _),?_⟩;iterate 3 refine Λ ?_
     refine gM ?_;have k68:Below W6.drew.heap.size W6.drew w10:=(k8.trans (k9.mono k8.size)).trans (k10.mono (k8.trans (k9.mono k8.size)).size);refine aD<|qa ?_;refine qg (aIy _ J (n:=q'.length) E O _) ?_;refine ε (CS q' (β ⟨wg,if 4<wc then 0+4 else 0,none⟩) _ w10 (VC (show RdS xH 1 W6.drew _ q' from aBB hrw (λh=>by rw[η O])) k68) O) ?_;rintro e w11 ⟨u,rfl,hnil,hu,k11⟩;replace H:=H.call k11;generalize hb:(ω q').isSome=t;refine⟨î #[u,Δ t],J,?_⟩;iterate 5 refine N ?_
     refine aC ?_;obtain⟨lv,elv⟩:∃lv,lv=(ω q').getD []:=⟨_,rfl⟩;obtain⟨ua,uc,rfl,hus,huc⟩:∃ua uc,u=κ ua lv.length uc/\Sr w11 ua lv.length uc (iF (gL lv))/\lv.length<=uc:=by
      cases hN:ω q' with
      |none=>rw[hN] at elv;rw[elv,hnil hN];exact⟨none,0,J,Aa ⟨J,J,J⟩,Xr _⟩
      |some l=>rw[hN] at elv;rw[elv];exact iT (show ê _ _ _ _ _ _ _ from (hu l hN).o0)
     have hvl:lv.length<=1000000:=by
      rw[elv];cases hN:ω q' with
      |none=>exact Xz _
      |some l=>have:=J8 hN;show l.length<=_;omega
     have hvR:∀i,υ (gL lv i):=λi=>by
      rw[elv];cases hN:ω q' with
      |none=>exact ó
      |some l=>exact rV hN i
     refine aD ?_;iterate 6 refine N ?_
     refine qg (rH _ _ _ _ J E E E E _) ?_;refine ε (JK (digI p2 9) c.bad s.c.fr ua lv.length uc (gL lv) w11 (aRm O) (by rw[<-eb];exact hO.ip.bad) hO.cl.1 hvR O huc hus) ?_;rintro e w12 ⟨v5,rfl,o5,k12⟩;obtain⟨a5,c5,rfl,hc5⟩:=dU o5;have hsz:=H.size;replace H:=H.add k12 (QV V.heap.size ⟨⟨digI p0 4,digI p1 3,rT (digI p2 9) c.bad s.c.fr lv.length,enS (digI p2 9) c.bad s.c.fr lv.length (gL lv)⟩,a5,c5⟩) (cO o5 hsz) (λj e=>(o5.lt j e).1);refine⟨_,J,?_⟩;iterate 5 refine N ?_
     refine aC ?_;have hL:TY s p0 p1 p2 q'↔(0<=digI p0 4/\0<=digI p1 3/\0<=digI p2 9/\t=true/\0<=c.bad/\ì (digI p2 9) c.bad s.c.fr lv.length=0/\c.LL.length<400):=by unfold TY;rw[eb,el,hb, <-elv]
     have no:¬(0<=digI p0 4/\0<=digI p1 3/\0<=digI p2 9/\t=true/\0<=c.bad/\ì (digI p2 9) c.bad s.c.fr lv.length=0/\c.LL.length<400)->kS s x=none:=λh=>eR.trans (aKr hO.bad.1 (λh'=>h (hL.1 h')));refine aD<|qa ?_;by_cases g0:0<=digI p0 4;refine ψ ?_;iterate 2 refine N ?_
     by_cases g1:0<=digI p1 3;refine ψ ?_;refine ν ?_;iterate 2 refine N ?_
     by_cases g2:0<=digI p2 9;refine ψ ?_;refine ν ?_;iterate 2 refine N ?_
     refine ν ?_;refine N ?_;cases t
     case' true=>
      refine N ?_;refine qg (aT _ _ J OneK.out E H.v3 O (aKp _ _ _)) ?_;by_cases g4:0<=c.bad;refine ψ ?_;refine ν ?_;iterate 2 refine N ?_
      by_cases g5:ì (digI p2 9) c.bad s.c.fr lv.length=0;refine qg (nC (b:=true) _ _ J E E (Xt g5) _) ?_;refine ν ?_;iterate 2 refine N ?_
      refine qg (aT _ _ J OneK.out E H.v3 O (aEe _ _ _)) ?_;refine N ?_;by_cases g6:c.LL.length<400;refine ψ ?_;refine ν ?_;refine aC<|aS E ?_;refine aI ?_;have ea:kS s x=β { s with x:={ s.x with ly:=s.x.ly++[⟨digI p0 4,digI p1 3,12+8*lv.length,enS (digI p2 9) s.x.bad s.c.fr lv.length (gL lv)⟩] } }:=by rw[eR,lieP_yes (hL.2 ⟨g0,g1,g2,rfl,g4,g5,g6⟩), <-elv]
      have eL:rT (digI p2 9) c.bad s.c.fr lv.length=12+8*lv.length:=by unfold rT;rw[η g5]
      have hl24:=(oI g5).2.2.2.2.2.2;refine N ?_;refine qg (aT _ _ J OneK.out E H.v3 O (aEe _ _ _)) ?_;iterate 3 refine N ?_
      refine qg (TA _ _ _ J E E E _) ?_;refine bI J Yw (λK hK=>LH SlcK.out ManyK.out ZerK.out Yc Yc J E (λV8 m8 k8' z8=>hK _ _ ?_));have hsz8:=H.size;replace H:=H.call k8';refine OE (bytes:=40) H.a5 (zU (EL (B:=V.heap.size) (F:=QW) (x:=⟨⟨digI p0 4,digI p1 3,rT (digI p2 9) c.bad s.c.fr lv.length,enS (digI p2 9) c.bad s.c.fr lv.length (gL lv)⟩,a5,c5⟩) m8 O)) (KZ (λx _=>KS _ _ _ _ _)) Ym O ?_;clear H;intro v9 V9 H;have hr9:ê _ _ _ _ _ _ _:=H.o5;obtain⟨a9,c9,rfl,hc9⟩:=dU hr9;refine N ?_;refine kX H.a3 (q:=0+13) (u:=κ a9 (c.LL.length+1) c9) (g':=jW c.rd c.bad (κ a9 (c.LL.length+1) c9)) (zR _ _ _ _) ?_;clear H;intro w10 H z10;refine N ?_;obtain⟨y,hy⟩:∃y:Lj,y=⟨⟨digI p0 4,digI p1 3,rT (digI p2 9) c.bad s.c.fr lv.length,enS (digI p2 9) c.bad s.c.fr lv.length (gL lv)⟩,a5,c5⟩:=⟨_,rfl⟩;rw[<-hy] at H;have eN:(c.LL++[y]).length=c.LL.length+1:=Ag;have ex:Li.x { c with LL:=c.LL++[y],lo:=a9,lc:=c9 }={ s.x with ly:=s.x.ly++[⟨digI p0 4,digI p1 3,12+8*lv.length,enS (digI p2 9) s.x.bad s.c.fr lv.length (gL lv)⟩] }:=by rw[<-hO.x];unfold Li.x;dsimp only;rw[Cb,hy,eL];rfl
      refine kL ⟨J,true,_,YA,YB,E,E,E,E,E,E,E,E,Aa ⟨ea,J⟩,D,{ c with LL:=c.LL++[y],lo:=a9,lc:=c9 },{ nd:=hO.nd,x:=ex,cl:=hO.cl,ip:=⟨hO.ip.rd,hO.ip.bad,?_⟩,bad:=hO.bad,ly:=?_,lc:=by rw[eN];exact hc9,by_:=?_,fr:=hO.fr },?_⟩
      .intro z hz i;rcases De.1 hz with hz|hz
       .exact hO.ip.g z hz i
       rw[Ct.1 hz];exact PY _ _ _ _ _ i
      .show (s.x.ly++[_]).length<=400;rw[Ag,el];show c.LL.length+1<=400;omega
      .intro d hd;rcases De.1 hd with hd|hd
       .exact hO.by_ d hd
       rw[Ct.1 hd,hy];show rT _ _ _ _<=_;omega
      .have H2:=(aAZ (f:=QV V.heap.size) (c:=y) H.f1.tl.f5.f1).b4;rw[<-KY, <-eN] at H2;exact H2
     .refine Θ ?_;refine ν ?_;refine aC<|aO E ?_;exact iE ⟨J,false,s,YA,YB,E,E,E,E,E,E,E,E,Ab ⟨no (λh=>ρ h.2.2.2.2.2.2 g6),J,J⟩,D,c,hO,H.tl.tl⟩
     .refine qg (nC (b:=false) _ _ J E E (Xf (by assumption)) _) ?_;refine ν ?_;refine N ?_;iterate 4 refine bP ?_
      refine ι ?_;refine aC<|aO E ?_;exact iE ⟨J,false,s,YA,YB,E,E,E,E,E,E,E,E,Ab ⟨no (λh=>ρ h.2.2.2.2.2.1 g5),J,J⟩,D,c,hO,H.tl.tl⟩
     .refine Θ ?_;refine ν ?_;refine N ?_;iterate 2 refine bP ?_
      refine ι ?_;refine N ?_;iterate 4 refine bP ?_
      refine ι ?_;refine aC<|aO E ?_;exact iE ⟨J,false,s,YA,YB,E,E,E,E,E,E,E,E,Ab ⟨no (λh=>ρ h.2.2.2.2.1 g4),J,J⟩,D,c,hO,H.tl.tl⟩
     .iterate 3 refine bP ?_
      refine ι ?_;refine N ?_;iterate 2 refine bP ?_
      refine ι ?_;refine N ?_;iterate 4 refine bP ?_
      refine ι ?_;refine aC<|aO E ?_;exact iE ⟨J,false,s,YA,YB,E,E,E,E,E,E,E,E,Ab ⟨no (λh=>ρ h.2.2.2.1 Yc),J,J⟩,D,c,hO,H.tl.tl⟩
     .refine Θ ?_;refine ν ?_;refine N ?_;refine bP ?_;refine ι ?_;refine N ?_;iterate 3 refine bP ?_
      refine ι ?_;refine N ?_;iterate 2 refine bP ?_
      refine ι ?_;refine N ?_;iterate 4 refine bP ?_
      refine ι ?_;refine aC<|aO E ?_;exact iE ⟨J,false,s,YA,YB,E,E,E,E,E,E,E,E,Ab ⟨no (λh=>ρ h.2.2.1 g2),J,J⟩,D,c,hO,H.tl.tl⟩
     .refine Θ ?_;refine ν ?_;refine N ?_;iterate 2 refine bP ?_
      refine ι ?_;refine N ?_;refine bP ?_;refine ι ?_;refine N ?_;iterate 3 refine bP ?_
      refine ι ?_;refine N ?_;iterate 2 refine bP ?_
      refine ι ?_;refine N ?_;iterate 4 refine bP ?_
      refine ι ?_;refine aC<|aO E ?_;exact iE ⟨J,false,s,YA,YB,E,E,E,E,E,E,E,E,Ab ⟨no (λh=>ρ h.2.1 g1),J,J⟩,D,c,hO,H.tl.tl⟩
     refine Θ ?_;refine N ?_;iterate 2 refine bP ?_
     refine ι ?_;refine N ?_;iterate 2 refine bP ?_
     refine ι ?_;refine N ?_;refine bP ?_;refine ι ?_;refine N ?_;iterate 3 refine bP ?_
     refine ι ?_;refine N ?_;iterate 2 refine bP ?_
     refine ι ?_;refine N ?_;iterate 4 refine bP ?_
     refine ι ?_;refine aC<|aO E ?_;exact iE ⟨J,false,s,YA,YB,E,E,E,E,E,E,E,E,Ab ⟨no (λh=>ρ h.1 g0),J,J⟩,D,c,hO,H.tl.tl⟩
    refine aO (b171.trans (by rw[Xf hE])) ?_;refine aD (aG ?_);refine N ?_;by_cases hF:x=[102,114,97,109,101]
    .obtain⟨hF1,rfl⟩:=(word_iff ek Yc).1 hF;have eR:kS s x=vL s []:=by rw[eP,hF1,δ Yc,δ Yc,δ Yc,δ Yc,δ Yc,η J]
     refine qg (gN (b:=true) (t:=[102,114,97,109,101]) _ _ J E J (Xt hF) _) ?_;refine N ?_;refine aC<|aS E ?_;obtain⟨p1,p2,p3,p4⟩:=WQ (x:=c.x) (fr:=s.c.fr) (D:=D) (c:=s.c) rfl hO.nd;rw[hO.x] at p1 p2 p3 p4;obtain⟨rs,ers⟩:∃rs,rs=frR s.x s.c:=⟨_,rfl⟩;rw[<-ers] at p4;have hip:IpOK c.x:=by rw[hO.x];exact hO.ip
     have hcls:uF ⟨s.c.fr,λi=>(D i).1⟩:=⟨hO.cl.1,λi hi=>by show NdOK (D i).1;rw[hO.nd i hi];exact hO.cl.2 i hi⟩;have hag:∀i,i<4->zX W6 (D i).1 (D i).2.1 (D i).2.2:=λi hi=>by have ho:ê _ _ _ _ _ _ _:=H.o3 i hi;obtain⟨a3,c3,e,hs3,_⟩:=iT ho;cases e;exact hs3
     have hj:JRd W6 c.lo c.LL:=aNb ⟨H.o4,H.o5⟩ (λd hd=>⟨hO.by_ d hd,λi=>hip.g d.y (Eh.2 ⟨d,hd,J⟩) i⟩);have hfr:=aDn c.x s.c.fr D c.lo c.lc c.LL W6 J hip hcls hag hj;rw[show gY c.x ⟨s.c.fr,λi=>(D i).1⟩=gY s.x s.c by rw[hO.x];exact p1,show (lC c.x ⟨s.c.fr,λi=>(D i).1⟩).fr=(lC s.x s.c).fr by rw[hO.x];exact p2,show frR c.x ⟨s.c.fr,λi=>(D i).1⟩=rs by rw[hO.x];exact p4] at hfr;refine aD ?_;iterate 2 refine N ?_
     refine ε hfr ?_;rintro e w8 ⟨D',vr,rfl,hD',G⟩;have hsz:=H.size;replace H:=xJ (JB (H.plus G) hsz).f1 hsz;have hnd:∀i,i<4->(D' i).1=(lC s.x s.c).nd i:=λi hi=>by rw[hO.x] at hD';exact (hD' i hi).trans (p3 i hi)
     refine⟨_,J,?_⟩;refine N ?_;refine qg (pI _ J E _) ?_;refine qg (pJ _ J E _) ?_;refine qg (pK _ J E _) ?_;refine gQ H ?_;clear H;intro w9 H z9;refine gH H.a0 aZ (oN _ _) ?_;clear H;intro w10 H z10;iterate 2 refine N ?_
     refine aC<|aD<|qa ?_;by_cases hN:gY s.x s.c=0
     .refine qg (nC (b:=true) _ _ J E E (Xt hN) _) ?_;refine aC<|aS E ?_;refine aD<|qa ?_;refine gH H.a4 aZ (oN _ _) ?_;clear H;intro w11 H z11;refine N ?_;refine kX H.a5 (q:=0+13) (g':=jW c.rd c.bad (κ none 0 0)) (zR _ _ _ _) ?_;clear H;intro w12 H z12;refine N ?_;refine aC ?_;have ho:ê _ _ _ _ _ _ _:=H.o2;obtain⟨ra,rc,rfl,hrc⟩:=dU ho;replace H:=H.f2.f2.f5.f5.sub (.cons_cons _ (.cons_cons _ (.cons_cons _ (.cons_cons _ (El _)))));have hrl:rs.length<=4:=by rw[ers];exact UM _ _
      have hrn:∀n,n∈rs->(NdOK n/\0<=n.dg)/\0<=n.id/\0<=n.fr:=λn hn=>by rw[ers] at hn;exact⟨aAF hO.ip hO.cl hn,aOk hn⟩
      refine aD ?_;iterate 3 refine N ?_
      refine aC<|aJ ?_;refine bR (λr A W=>∃(j:Z),j<=rs.length/\rs.length-j<=r/\A.tmps.size=282/\A.defers=[]/\A.eval (.tmp 6)=φ (β ⟨cb,0,none⟩)/\A.eval (.tmp 7)=φ (β ⟨ib,0,none⟩)/\A.eval (.tmp 68)=κ (β ⟨g,0,none⟩) L.length cap/\A.eval (.tmp 69)=γ ζ (L.length:Z)/\A.eval (.tmp 70)=γ ζ (k:Z)/\A.eval (.tmp 9)=γ ζ (k:Z)/\A.eval (.tmp 13)=Δ true/\A.eval (.tmp 8)=tV (s.o++(rs.take j).flatMap rpT)/\A.eval (.tmp 260)=κ ra rs.length rc/\A.eval (.tmp 261)=γ ζ (rs.length:Z)/\A.eval (.tmp 262)=γ ζ (j:Z)/\Cx V W [τ 46 cb 297 297 (kZ (lC s.x s.c).fr D'),τ 52 ib 14 14 (jW c.rd c.bad (κ none 0 0)),oU V.heap.size D',fU V.heap.size 57 14 (κ ra rs.length rc) rs.length (qP iX 14 rs)]) rs.length
       ⟨0,Xz _,O,YA,YB,E,E,E,E,E,E,E,Ae E (by rw[List.take_zero,List.flatMap_nil,Be]),E,E,E,H⟩ (λr B W hI=>?_)
      clear b6 b7 b8 b9 b10 b11 b12 b13 b68 b69 b70 b171 hs hd H;obtain⟨j,hjl,hjr,hs,hd,b6,b7,b68,b69,b70,b9,b13,b8,b260,b261,b262,H⟩:=hI;refine aD (aG ?_);refine N ?_;refine aC<|aH<|fB (λhc=>?_) (λhc=>?_)
      .have hin:j<rs.length:=by have:=Xu hc;omega
       obtain⟨n,en⟩:∃n,n=rs[j]:=⟨_,rfl⟩;have hk?:rs[j]?=β n:=by rw[Bf hin,en]
       have hmem:=hrn n (List.mem_of_getElem? hk?);have hrd:RdS iX 14 W ra rs:=VB (F:=iX) (s:=14) H.o3 Yc;obtain⟨rb,ro,rfl,hcell⟩:=hrd O;have hcell:=hcell j n hk?;refine aR<|aH (aJ ?_);refine aD<|qg (dD (i:=j) _ _ _ _ rfl SlcK.out SizK.out E E rfl hin _) ?_;refine qg (nR (g:=iX n) ManyK.out hcell J E) ?_;refine gQ H ?_;clear H;intro w9 H z9;refine gH H.a0 (g':=iX n) aZ (mX _ _) ?_;clear H;intro w10 H z10;refine aC<|aI ?_;iterate 2 refine N ?_
       have l1:=U5 (L:=rs.take j) (λm hm=>(hrn m (List.mem_of_mem_take hm)).1.1);have l2:=aEz hmem.1.1;rw[Ea] at l1;refine ε (aMe n hmem.1.1 hmem.1.2 hmem.2.1 hmem.2.2 _) ?_;rintro e w11 ⟨rfl,k11⟩;refine⟨_,J,?_⟩;refine qg (gZ _ _ J E E (by rw[Ag];omega) _) ?_;refine N ?_;refine fK<|aI ?_;repeat refine N ?_
       refine aU ⟨rs.length-(j+1),O,j+1,O,O,YA,YB,E,E,E,E,E,E,E,Ae E ?_,E,E,Ae E YC,(H.call k11).tl⟩;rw[<-Fw hin,List.flatMap_append, <-Ce,List.flatMap_cons,List.flatMap_nil,Be, <-en]
      obtain rfl:j=rs.length:=by have:=Xg hc;omega
      rw[Hz] at b8;have hE2:=F7 hN;have ex:Li.x { c with LL:=[],lo:=none,lc:=0 }={ s.x with ly:=[] }:=by rw[<-hO.x];rfl
      have efr:(lC s.x s.c).fr=s.c.fr+1:=by unfold lC;rw[η hN]
      refine bL (Q8 ⟨J,true,⟨lC s.x s.c,{ s.x with ly:=[] },s.o++rs.flatMap rpT⟩,YA,YB,E,E,E,E,E,E,E,E,Aa ⟨by rw[eR,fraP_at hN,ers],rfl⟩,D',{ c with LL:=[],lo:=none,lc:=0 },{ nd:=hnd,x:=ex,cl:=frC_ok hO.ip hO.cl,ip:=⟨hO.ip.rd,hO.ip.bad,λ_ h=>nomatch h⟩,bad:=hO.bad,ly:=Xz _,lc:=Xr _,by_:=(λ_ h=>nomatch h),fr:=⟨?_,?_⟩ },ð _ H⟩)
      .show 0<=(lC s.x s.c).fr;rw[efr];have:=hE2.2.1;omega
      show (lC s.x s.c).fr<=_;rw[efr];have:=hE2.2.1;omega
     refine qg (nC (b:=false) _ _ J E E (Xf hN) _) ?_;refine aC<|aO E ?_;exact iE ⟨J,false,s,YA,YB,E,E,E,E,E,E,E,E,Ab ⟨eR.trans (aEc hN),J,J⟩,D,c,hO,H.tl.tl.tl.tl⟩
    refine qg (gN (b:=false) (t:=[102,114,97,109,101]) _ _ J E J (Xf hF) _) ?_;refine N ?_;refine aC<|aO E ?_;have e0:kS s x=none:=by
     rw[eP];split
     .exact aMg (λh=>hA ⟨‹_›,h⟩)
     split
     .exact aBC (λh=>hB ⟨‹_›,h⟩)
     split
     .exact aJC (λh=>hC ⟨‹_›,h⟩)
     split
     .exact aKh (λh=>hG ((word_iff ek Yc).2 ⟨‹_›,h⟩))
     split
     .exact I9 (Aa (Nat.lt_of_not_le (λh=>hE ⟨‹_›,h⟩)))
     split
     .match q,ek with
      |[],ek=>exact ρ ((word_iff ek Yc).2 ⟨‹_›,rfl⟩) hF
      |_::_,_=>rfl
     rfl
    exact iE ⟨J,false,s,YA,YB,E,E,E,E,E,E,E,E,Ab ⟨e0,J,J⟩,D,c,hO,H.tl⟩
   obtain⟨D0,c0,hO0,_⟩:=hP;have hip:=hO0.ip;have hcl:=hO0.cl;clear hO0 b6 b7 b8 b68 b69 b70 hs hd;obtain⟨ok,s',hs,hd,b6,b7,b68,b69,b70,b9,b13,b8,hor,hP'⟩:=hI;refine aD (aG ?_);refine N ?_;rcases hor with ⟨h1,rfl⟩|⟨h1,rfl,rfl⟩
   .refine qg (tZ _ _ J E _) ?_;refine aC<|aO E ?_;have e2:σ L (k+1)=s':=by rw[eS];unfold ä;rw[h1]
    refine iE ⟨J,YA,YB,E,E,E,E,E,?_,?_,?_⟩
    .rw[e2];exact E
    .rw[e2];exact hP'
    rw[e2];have:=aAV hip hcl h1;omega
   refine qg (tZ _ _ J E _) ?_;refine aC<|aS E ?_;have e2:σ L (k+1)={ s' with o:=s'.o++([119,114,111,110,103,32]++itoa ((k+1:Z):Int)++[10]) }:=by rw[eS];unfold ä;rw[h1]
   have ik:=nZ (n:=((k+1:Z):Int)) (by unfold υ;omega);refine aI ?_;iterate 2 refine N ?_
   refine qg ((nA _ _ J E E O O _).trans (by rw[show ((k:Z):Int)+1=((k+1:Z):Int) by omega])) ?_;refine ε (yB (k+1) O _) ?_;rintro e w8 ⟨rfl,k8⟩;refine⟨_,J,?_⟩;refine qg (gZ (a:=[119,114,111,110,103,32]) _ _ J J E (by simp only[Ai,Au];omega) _) ?_;refine qg (gZ (b:=[10]) _ _ J E J (by simp only[Ag,Ai,Au];omega) _) ?_;refine qg (gZ _ _ J E E (by simp only[Ag,Ai,Au];omega) _) ?_;refine N ?_;refine kL ⟨J,YA,YB,E,E,E,E,E,?_,?_,?_⟩
   .rw[e2];exact E
   .rw[e2];obtain⟨D,c,hO,H⟩:=hP';exact⟨D,c,{ nd:=hO.nd,x:=hO.x,cl:=hO.cl,ip:=hO.ip,bad:=hO.bad,ly:=hO.ly,lc:=hO.lc,by_:=hO.by_,fr:=hO.fr },H.call k8⟩
   rw[e2];show (s'.o++([119,114,111,110,103,32]++itoa ((k+1:Z):Int)++[10])).length<=_;simp only[Ag,Ai,Au];omega
  clear b6 b7 b8 b68 b69 b70 hs hd hP hol;obtain⟨hs,hd,b6,b7,b68,b69,b70,b8,hP,hol⟩:=hI;refine aI (aG ?_);repeat refine N ?_
  exact aU ⟨L.length-(k+1),O,k+1,O,O,YA,YB,E,E,E,E,E,Ae E YC,hP,hol⟩
 obtain rfl:k=L.length:=by have:=Xg hc;omega
 obtain⟨D',c',hO',H'⟩:=hP;refine bL (dQ ?_);refine aD ?_;iterate 3 refine N ?_
 refine aC ?_;exact aQ (aN YB (iP J E E) ⟨J,hbel.trans (H'.bel.mono hbel.size)⟩)
theorem aSm:uQ [63]=[119,114,111,110,103,32,49,10]:=by
 have h:kS MV [63]=none:=by simp[kS,ο]
 have e:σ [[63]] 1=ä MV 0 [63]:=rfl;have s:ο 10 [63]=[[63]]:=rfl;unfold uQ;rw[δ Yc,s,δ Yc];show (σ [[63]] 1).o=_;rw[e];unfold ä;rw[h,show itoa ((0+1:Z):Int)=[49] by unfold itoa;rw[δ Yc];exact decDigits_one Yc];rfl
theorem PX(l:θ UInt8)(mx:Int)(w:ξ)(hm:w.cell? ⟨1,0,none⟩=β (.int .i64 mx))(hT:TabOK w):Ξ μ 3 #[tV l] w λe w'=>e=.returned (.bool true)/\Below w.heap.size w w':=by
 refine bC Tryz.func3 J 35 J Yd (λA hs hd hb=>?_);have b0:A.eval (.tmp 0)=tV l:=hb 0 _ J;clear hb;refine aD (aG ?_);refine N ?_;refine aC<|aD<|qa ?_;refine ε (MF l mx _ hm hT) ?_;rintro e w1 ⟨rfl,k1⟩;refine⟨_,J,?_⟩;iterate 5 refine N ?_
 refine aC<|aD<|qa ?_;refine ε (aDq l _) ?_;rintro e w2 ⟨rfl,k2⟩;refine⟨_,J,?_⟩;iterate 5 refine N ?_
 refine aC ?_;have k12:=k1.trans (k2.mono k1.size);refine aD<|q_c (MF [63] mx _ (aP hm k12) (hT.bel k12)) ?_;rintro e w3 ⟨rfl,k3⟩;refine⟨_,J,?_⟩;iterate 5 refine N ?_
 refine aC<|aD ?_;iterate 2 refine N ?_
 refine qg (gN (b:=true) _ _ J E E (Xt J) _) ?_;iterate 3 refine N ?_
 refine qg (nC (b:=true) _ _ J E E (Xt J) _) ?_;refine ν ?_;iterate 2 refine N ?_
 refine qg (gN (b:=true) (t:=[119,114,111,110,103,32,49,10]) _ _ J E J (Xt aSm) _) ?_;refine ν ?_;refine N ?_;refine aC ?_;exact aQ (aN YB (bS J E) ⟨J,k12.trans (k3.mono k12.size)⟩)
end Go.Proofs.YthimcecbgpamdaaGreatDoor
