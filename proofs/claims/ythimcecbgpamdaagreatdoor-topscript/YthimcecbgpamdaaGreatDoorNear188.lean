import Derived.Test.YthimcecbgpamdaaGreatDoorNear176
set_option maxHeartbeats 4000000
namespace Go.Proofs.YthimcecbgpamdaaGreatDoor
open Go.Lib
theorem aCe {c x : UInt8} (h : x ≠ c) (k : Nat) (l : List UInt8) : splitK [c] 0 k (x :: l) = match splitK [c] 0 k l with
  |[]=>[[x]]
  |a::r=>(x::a)::r:=by
 cases k with
 |zero=>rfl
 |succ k=>
  have hp:([c]:List UInt8).isPrefixOf (x::l)=false:=by simp[List.isPrefixOf,Ne.symm h]
  have hix:index (x::l) [c]=if index l [c]== -1 then -1 else index l [c]+1:=by rw[index,hp];simp
  unfold splitK;by_cases hm:index l [c]= -1
  .rw[hix,if_pos (beq_iff_eq.2 hm),if_pos Yc,if_pos (beq_iff_eq.2 hm)]
  .have hge:=index_ge l [c];rw[hix,if_neg (λe=>hm (beq_iff_eq.1 e)),if_neg (λe=>by have:=beq_iff_eq.1 e;omega),if_neg (λe=>hm (beq_iff_eq.1 e))];obtain⟨j,hj⟩:∃j:Nat,index l [c]=j:=⟨(index l [c]).toNat,Yo⟩;rw[hj,show ((j:Int)+1).toNat=j+1 by omega];simp
theorem QD(c:UInt8):∀l:List UInt8,splitK [c] 0 (count l [c]) l=fA c l
 |[]=>by rw[count_miss (by simp[index])];rfl
 |x::l=>by
  by_cases h:x=c
  .subst h;rw[count_cons_eq,Nat.add_comm 1];unfold splitK fA;have hix:index (x::l) [x]=((0:Nat):Int):=by rw[index];simp[List.isPrefixOf]
   rw[hix,if_neg Yc,if_pos rfl];show _::splitK [x] 0 _ l=_
   rw[QD x l];rfl
  .rw[count_cons_ne x c l h,aCe h,QD c l]
   conv=>rhs;unfold fA
   rw[if_neg h];rfl
theorem JX(c:UInt8)(l:List UInt8):(splitB ⟨#[c]⟩ 0 (countB ⟨l.toArray⟩ ⟨#[c]⟩) ⟨l.toArray⟩).map Value.string=(fA c l).map tV:=by
 have h:=splitB_data ⟨#[c]⟩ 0 (countB ⟨l.toArray⟩ ⟨#[c]⟩) ⟨l.toArray⟩;rw[<-QD c l];have e:splitK (ByteArray.mk #[c]).data.toList 0 (countB ⟨l.toArray⟩ ⟨#[c]⟩) (ByteArray.mk l.toArray).data.toList=splitK [c] 0 (count l [c]) l:=by simp[countB]
 rw[e] at h;rw[<-h,List.map_map];refine List.map_congr_left λs _=>?_
 show Value.string s=Value.string ⟨s.data.toList.toArray⟩
 rw[Array.toArray_toList]
theorem XR(c:UInt8)(l:List UInt8):countB ⟨l.toArray⟩ ⟨#[c]⟩+1=(fA c l).length:=by
 have h:=congrArg List.length (JX c l);rw[List.length_map,List.length_map,splitB_all ⟨#[c]⟩ (Xr 1) 0 _ _ rfl] at h;exact h
theorem C8(c:UInt8):∀l:List UInt8,(fA c l).length<=l.length+1
 |[]=>Xr _
 |x::l=>by
  have ih:=C8 c l;unfold fA;split
  .simp only[List.length_cons];omega
  .revert ih
   cases fA c l with
   |nil=>intro;simp
   |cons a r=>intro ih;simp only[List.length_cons] at ih ⊢;omega
theorem QE(c:UInt8):∀(l:List UInt8) (a:List UInt8),a∈fA c l->a.length<=l.length
 |[],a,h=>by rw[fA,List.mem_singleton] at h;subst h;exact Xr _
 |x::l,a,h=>by
  have ih:=QE c l;unfold fA at h;split at h
  .rcases List.mem_cons.1 h with rfl|h
   .exact Xz _
   .have:=ih a h;simp only[List.length_cons];omega
  .revert ih h
   cases fA c l with
   |nil=>intro _ h;rw[List.mem_singleton] at h;subst h;simp
   |cons b r=>
    intro ih h;rcases List.mem_cons.1 h with rfl|h
    .have:=ih b List.mem_cons_self;simp only[List.length_cons];omega
    .have:=ih a (List.mem_cons_of_mem _ h);simp only[List.length_cons];omega
end Go.Proofs.YthimcecbgpamdaaGreatDoor
namespace Go.Proofs.YthimcecbgpamdaaGreatDoor
open Go.RowKit Go.Lib
instance iDrvP_1:EntK Tryz.prog 13:=⟨λargs w=>Yh⟩
instance iDrvP_2:EntK Tryz.prog 15:=⟨λargs w=>Yh⟩
theorem aJh(L:List (List UInt8)):L.map tV=(List.range L.length).map (qG L):=by
 refine List.ext_getElem (by rw[List.length_map,List.length_map,List.length_range]) (λi h1 h2=>?_);rw[List.length_map] at h1;rw[List.getElem_map,List.getElem_map,List.getElem_range];unfold qG;rw[List.getD_eq_getElem?_getD,List.getElem?_eq_getElem h1];rfl
theorem Z8(c:UInt8)(l:List UInt8)(mx:Int)(w:World)(hl:l.length<=4000000000)(hm:w.cell? ⟨1,0,none⟩=some (.int .i64 mx)):Calls Tryz.prog 13 #[tV l,tV [c]] w λe w'=>e=.returned (.slice (some ⟨w.heap.size,0,none⟩) (fA c l).length (fA c l).length)/\Vh 9 w' w.heap.size (fA c l).length (fA c l).length (qG (fA c l))/\Below w.heap.size w w':=by
 refine (Tryz.strings_Split ⟨l.toArray⟩ ⟨[c].toArray⟩ mx w (by show l.toArray.size<_;rw[List.size_toArray];omega) hm (Xr 1)).mono (λe w' ⟨h1,h2⟩=>?_);have e1:countB ⟨l.toArray⟩ ⟨[c].toArray⟩+1=(fA c l).length:=XR c l;have e2:(splitB ⟨[c].toArray⟩ 0 (countB ⟨l.toArray⟩ ⟨[c].toArray⟩) ⟨l.toArray⟩).map Value.string=(fA c l).map tV:=JX c l;have hle:=C8 c l;rw[h2,e2,aJh];rw[e1] at h1;exact⟨h1,Vh.of_row _ _ Ym (by show (w.heap.push _)[w.heap.size]?=_;rw[Array.getElem?_push_size]),bK _ _⟩
section
variable {f:Operand->Value} {o:Oper}
theorem aEL(x:Operand)(ho:o.op=.slice 59 x (some (.const (.int .i64 1))) none none){b n:Nat}(hx:f x=.slice (some ⟨b,0,none⟩) (n+1) (n+1))(w:World)(hk:∀v,f (.const v)=v:=by exact λ_=>rfl):(execOp f o).run Tryz.prog w=.ok (.value (.slice (some ⟨b,if 0<n then 1 else 0,none⟩) n n)) w:=by
 by_cases h:0<n
 .have:=Q9 x ho hx Yo w hk;rw[if_pos h];exact this
 .obtain rfl:n=0:=Yo;unfold execOp;rw[ho];simp only[Option.map_some,Option.map_none];rw[hx,hk];go_simp
theorem jM(x y:Operand)(ho:o.op=.binOp .eql 9 x y 9){s t:List UInt8}{b:Bool}(hx:f x=tV s)(hy:f y=tV t)(hb:decide (s=t)=b)(w:World):(execOp f o).run Tryz.prog w=.ok (.value (.bool b)) w:=by
 refine aEN x y ho hx hy ?_ w;rw[<-hb];refine decide_eq_decide.2 ⟨λh=>?_,λh=>by rw[h]⟩;have:=congrArg (λa:ByteArray=>a.data.toList) h
 simpa using this
end
variable{b:Nat}{s:Pl}{w w0:World}
theorem PlAt.call{w':World}(h:PlAt w0 w b s)(k:Below w.heap.size w w'):PlAt w0 w' b s:=by
 obtain⟨D,c,p,v,hO,hp,H⟩:=h;exact⟨D,c,p,v,hO,hp,H.call k⟩
theorem PlAt.bel(h:PlAt w0 w b s):Below w0.heap.size w0 w:=by
 obtain⟨D,c,p,v,hO,hp,H⟩:=h;exact H.bel
variable{q:List (List UInt8)}
theorem aLD{k:List UInt8}(m:Vh 9 w b (k::q).length (k::q).length (qG (k::q))):RdS xQ 1 w (some ⟨b,if 0<q.length then 1 else 0,none⟩) q:=λh=>⟨b,1,by rw[if_pos h],λi c hi j hj=>by
 have hl:=(List.getElem?_eq_some_iff.1 hi).1;have:=m.cell (i:=i+1) (by rw[List.length_cons];omega);rw[show 1+i*1+j=i+1 by omega,this];unfold qG xQ;rw[List.getD_eq_getElem?_getD,List.getElem?_cons_succ,hi];rfl⟩
theorem WZ(mx:Int)(hm:w0.cell? ⟨1,0,none⟩=some (.int .i64 mx))(hT:TabOK w0)(hP:PlAt w0 w b s)(hsl:s.o.length<=140737488340000)(l:List UInt8)(hl:l.length<=100000):Calls Tryz.prog 15 #[.pointer (some ⟨b,0,none⟩),tV l] w λe w'=>e=.returned (.bool (lZ s l).isSome)/\PlAt w0 w' b ((lZ s l).getD s):=by
 refine bB Tryz.func15 rfl 46 rfl Yd (λA hs hd hb=>?_);have b0:A.eval (.tmp 0)=.pointer (some ⟨b,0,none⟩):=hb 0 _ rfl;have b1:A.eval (.tmp 1)=tV l:=hb 1 _ rfl;clear hb;refine aD (aG ?_);refine qa ?_;refine aC<|aH<|aD<|qa ?_;by_cases h0:l=[]
 .refine qg (jM (b:=true) (t:=[]) _ _ rfl Qv rfl (Xt h0) _) ?_;refine aC<|aT Qv ?_;refine aD<|qa ?_;refine aC ?_;have e:lZ s l=some s:=by unfold lZ;rw[if_pos h0]
  exact aN (fC (aK YB (bL rfl Qv) ⟨by rw[e];rfl,by rw[e];exact hP⟩))
 refine qg (jM (b:=false) (t:=[]) _ _ rfl Qv rfl (Xf h0) _) ?_;refine aC<|aQ Qv ?_;refine aS<|aD<|qa ?_;refine gX (Z8 32 l mx w Yo (aU hm hP.bel)) ?_;rintro e w1 ⟨rfl,m1,k1⟩;replace hP:=hP.call k1;have hlen:=C8 32 l;obtain⟨k,q,ek⟩:∃k q,fA 32 l=k::q:=by
  cases h:fA 32 l with
  |nil=>exact absurd h (splC_ne _ _)
  |cons k q=>exact⟨k,q,rfl⟩
 have eP:lZ s l=if k=[116,117,110,101] then tunP s q else if k=[114,101,97,100] then nN s q else if k=[98,97,100] then zC s q else if k=[103,111,111,100] then NM s q else if k=[108,105,101] then qM s q else if k=[102,114,97,109,101] then qL s q else none:=by
  unfold lZ;rw[if_neg h0,ek]
 rw[ek] at m1 hlen ⊢;rw[eP];have hq:q.length<=1000000:=by rw[List.length_cons] at hlen;omega
 refine⟨.slice (some ⟨w.heap.size,0,none⟩) (q.length+1) (q.length+1),rfl,?_⟩;have hr:=aLD m1;refine qa ?_;refine aC<|aD<|qa ?_;refine qg (aEL _ rfl Qv _) ?_;refine qa ?_;refine aC<|aH<|aD<|qa ?_;refine qg (eB (i:=0) _ _ _ _ rfl SlcK.out SizK.out Qv Qv rfl Yo _) ?_;refine qg (aR (v:=tV k) _ _ rfl OneK.out Qv m1 (by rw[List.length_cons];omega) rfl) ?_;refine aC<|aM<|aD ?_;by_cases c1:k=[116,117,110,101]
 .refine qg (jM (b:=true) (t:=[116,117,110,101]) _ _ rfl Qv rfl (Xt c1) _) ?_;refine qa ?_;refine aC<|aT Qv ?_;rw[if_pos c1];refine aD ?_;iterate 2 refine qa ?_
  refine gX (XX mx hm hP q _ _ hr hq) ?_;rintro e w2 ⟨rfl,h2⟩;refine⟨_,rfl,?_⟩;refine qa ?_;refine aC ?_;exact aN (yA (fC (aK YB (bL rfl Qv) ⟨rfl,h2⟩)))
 refine qg (jM (b:=false) (t:=[116,117,110,101]) _ _ rfl Qv rfl (Xf c1) _) ?_;refine qa ?_;refine aC<|aQ Qv ?_;rw[if_neg c1];refine aD ?_;by_cases c2:k=[114,101,97,100]
 .refine qg (jM (b:=true) (t:=[114,101,97,100]) _ _ rfl Qv rfl (Xt c2) _) ?_;refine qa ?_;refine aC<|aT Qv ?_;rw[if_pos c2];refine aD ?_;iterate 2 refine qa ?_
  refine gX (XB mx hm hP q _ _ hr hq (Xr _)) ?_;rintro e w2 ⟨rfl,h2⟩;refine⟨_,rfl,?_⟩;refine qa ?_;refine aC ?_;exact aN (yA (fC (aK YB (bL rfl Qv) ⟨rfl,h2⟩)))
 refine qg (jM (b:=false) (t:=[114,101,97,100]) _ _ rfl Qv rfl (Xf c2) _) ?_;refine qa ?_;refine aC<|aQ Qv ?_;rw[if_neg c2];refine aD ?_;by_cases c3:k=[98,97,100]
 .refine qg (jM (b:=true) (t:=[98,97,100]) _ _ rfl Qv rfl (Xt c3) _) ?_;refine qa ?_;refine aC<|aT Qv ?_;rw[if_pos c3];refine aD ?_;iterate 2 refine qa ?_
  refine gX (YZ hP q _ _ hr hq) ?_;rintro e w2 ⟨rfl,h2⟩;refine⟨_,rfl,?_⟩;refine qa ?_;refine aC ?_;exact aN (yA (fC (aK YB (bL rfl Qv) ⟨rfl,h2⟩)))
 refine qg (jM (b:=false) (t:=[98,97,100]) _ _ rfl Qv rfl (Xf c3) _) ?_;refine qa ?_;refine aC<|aQ Qv ?_;rw[if_neg c3];refine aD ?_;by_cases c4:k=[103,111,111,100]
 .refine qg (jM (b:=true) (t:=[103,111,111,100]) _ _ rfl Qv rfl (Xt c4) _) ?_;refine qa ?_;refine aC<|aT Qv ?_;rw[if_pos c4];refine aD ?_;iterate 2 refine qa ?_
  refine gX (WK hP q _ _ hq) ?_;rintro e w2 ⟨rfl,h2⟩;refine⟨_,rfl,?_⟩;refine qa ?_;refine aC ?_;exact aN (yA (fC (aK YB (bL rfl Qv) ⟨rfl,h2⟩)))
 refine qg (jM (b:=false) (t:=[103,111,111,100]) _ _ rfl Qv rfl (Xf c4) _) ?_;refine qa ?_;refine aC<|aQ Qv ?_;rw[if_neg c4];refine aD ?_;by_cases c5:k=[108,105,101]
 .refine qg (jM (b:=true) (t:=[108,105,101]) _ _ rfl Qv rfl (Xt c5) _) ?_;refine qa ?_;refine aC<|aT Qv ?_;rw[if_pos c5];refine aD ?_;iterate 2 refine qa ?_
  refine gX (aAE mx hm hP q _ _ hr hq (Xr _)) ?_;rintro e w2 ⟨rfl,h2⟩;refine⟨_,rfl,?_⟩;refine qa ?_;refine aC ?_;exact aN (yA (fC (aK YB (bL rfl Qv) ⟨rfl,h2⟩)))
 refine qg (jM (b:=false) (t:=[108,105,101]) _ _ rfl Qv rfl (Xf c5) _) ?_;refine qa ?_;refine aC<|aQ Qv ?_;rw[if_neg c5];refine aD ?_;by_cases c6:k=[102,114,97,109,101]
 .refine qg (jM (b:=true) (t:=[102,114,97,109,101]) _ _ rfl Qv rfl (Xt c6) _) ?_;refine qa ?_;refine aC<|aT Qv ?_;rw[if_pos c6];refine aD ?_;iterate 2 refine qa ?_
  refine gX (SE hT hP hsl q _ _ hq) ?_;rintro e w2 ⟨rfl,h2⟩;refine⟨_,rfl,?_⟩;refine qa ?_;refine aC ?_;exact aN (yA (fC (aK YB (bL rfl Qv) ⟨rfl,h2⟩)))
 refine qg (jM (b:=false) (t:=[102,114,97,109,101]) _ _ rfl Qv rfl (Xf c6) _) ?_;refine qa ?_;refine aC<|aQ Qv ?_;rw[if_neg c6];refine iU<|aD<|qa ?_;refine aC ?_;exact aN (aK YB (bL rfl Qv) ⟨rfl,hP⟩)
variable{l:List UInt8}
theorem aDL{t:Pl}(hx:IpOK s.x)(hc:lT s.c)(h:lZ s l=some t):t.o.length<=s.o.length+2400:=by
 have same:t.o=s.o->t.o.length<=s.o.length+2400:=λe=>by rw[e];omega
 unfold lZ at h;split at h
 .cases h;omega
 .split at h
  .cases h
  .split at h
   .unfold tunP at h;split at h
    .cases h;exact same rfl
    .cases h
   .split at h
    .unfold nN at h;split at h
     .split at h
      .cases h;exact same rfl
      .cases h
     .cases h
    .split at h
     .unfold zC at h;split at h
      .obtain⟨i,_,e⟩:=Option.map_eq_some_iff.1 h;subst e;exact same rfl
      .cases h
     .split at h
      .unfold NM at h;split at h
       .cases h;exact same rfl
       .cases h
      .split at h
       .unfold qM at h;split at h
        .split at h
         .cases h
         .split at h
          .split at h
           .cases h;exact same rfl
           .cases h
          .cases h
        .cases h
       .split at h
        .exact aDu hx hc h
        .cases h
instance iDrvA_1:EntK Tryz.prog 5:=⟨λargs w=>Yh⟩
instance iDrvA_2:EntK Tryz.prog 18:=⟨λargs w=>Yh⟩
theorem linK_succ(L:List (List UInt8))(k:Nat):linK L (k+1)=linS (linK L k) k (L.getD k []):=rfl
theorem SY(l:List UInt8)(mx:Int)(w:World)(hm:w.cell? ⟨1,0,none⟩=some (.int .i64 mx))(hT:TabOK w):Calls Tryz.prog 5 #[tV l] w λe w'=>e=.returned (.tuple #[tV (zS l),.int .i64 (zR l)])/\Below w.heap.size w w':=by
 refine bB Tryz.func5 rfl 39 rfl Yd (λA hs hd hb=>?_);have b0:A.eval (.tmp 0)=tV l:=hb 0 _ rfl;clear hb;have es:(ByteArray.mk l.toArray).size=l.length:=List.size_toArray ..;refine aD (aG ?_);iterate 2 refine qa ?_
 refine aC<|aH<|aD<|qa ?_;refine qg (xL _ rfl Qv _) ?_;by_cases h1:20000<l.length
 .refine qg (fV (b:=true) _ _ rfl Qv Qv (Xt (by rw[es];omega)) _) ?_;refine aC<|aT Qv ?_;refine aD ?_;iterate 2 refine qa ?_
  refine aC ?_;have eO:zS l=[]:=by unfold zS;rw[if_pos h1]
  have eE:zR l=1:=by unfold zR;rw[if_pos h1]
  exact aN (fC (aK YB (pF rfl Qv Qv) ⟨by rw[eO,eE],Below.refl _ _⟩))
 refine qg (fV (b:=false) _ _ rfl Qv Qv (Xf (by rw[es];omega)) _) ?_;refine aC<|aQ Qv ?_;refine aS<|aD<|qa ?_;refine gX (Z8 10 l mx w Yo hm) ?_;rintro e w1 ⟨rfl,m1,k1⟩;refine⟨_,rfl,?_⟩;obtain⟨L,eL⟩:∃L,L=fA 10 l:=⟨_,rfl⟩;have hLl:=C8 10 l;have hLm:=QE 10 l;rw[<-eL] at m1 hLl hLm ⊢;refine qa ?_;refine aC<|aH<|aD ?_;iterate 2 refine qa ?_
 by_cases h2:400<L.length
 .refine qg (fV (b:=true) _ _ rfl Qv Qv (Xt Yo) _) ?_;refine aC<|aT Qv ?_;refine aD ?_;iterate 2 refine qa ?_
  refine aC ?_;have eO:zS l=[]:=by unfold zS;rw[if_neg h1, <-eL,if_pos h2]
  have eE:zR l=6:=by unfold zR;rw[if_neg h1, <-eL,if_pos h2]
  exact aN (fC (aK YB (pF rfl Qv Qv) ⟨by rw[eO,eE],k1⟩))
 have eO:zS l=(linK L L.length).o:=by unfold zS;rw[if_neg h1, <-eL,if_neg h2]
 have eE:zR l=0:=by unfold zR;rw[if_neg h1, <-eL,if_neg h2]
 rw[eO,eE];refine qg (fV (b:=false) _ _ rfl Qv Qv (Xf Yo) _) ?_;refine aC<|aQ Qv ?_;refine aS<|aD<|aLy (QY w1) ?_;rintro e w2 ⟨b,rfl,hP⟩;refine⟨_,rfl,?_⟩;refine qa ?_;refine aC<|aH<|aD ?_;iterate 3 refine qa ?_
 refine aC ?_;have hT1:=hT.bel k1;have hm1:=aU hm k1;refine aM ?_;refine cO (λr A W=>∃(k:Nat),k<=L.length/\L.length-k<=r/\A.tmps.size=39/\A.defers=[]/\A.eval (.tmp 5)=.pointer (some ⟨b,0,none⟩)/\A.eval (.tmp 17)=.slice (some ⟨w.heap.size,0,none⟩) L.length L.length/\A.eval (.tmp 18)=.int .i64 (L.length:Nat)/\A.eval (.tmp 19)=.int .i64 (k:Nat)/\PlAt w1 W b (linK L k)/\(linK L k).o.length<=2500*k) L.length
  ⟨0,Xz _,Yo,YA,YB,Qv,Qv,Qv,Qv,hP,Xr _⟩ (λr B W hI=>?_)
 clear b0 hs hd hP;obtain⟨k,hk,hkr,hs,hd,b5,b17,b18,b19,hP,hol⟩:=hI;refine aD (aG ?_);refine qa ?_;refine aC<|aH<|iB (λhc=>?_) (λhc=>?_)
 .have hin:k<L.length:=by have:=Xu hc;omega
  have e1:L.getD k []=L[k]:=by rw[List.getD_eq_getElem?_getD,List.getElem?_eq_getElem hin];rfl
  have hln:=hLm L[k] (List.getElem_mem hin);refine aS<|zI (λA W=>A.tmps.size=39/\A.defers=[]/\A.eval (.tmp 5)=.pointer (some ⟨b,0,none⟩)/\A.eval (.tmp 17)=.slice (some ⟨w.heap.size,0,none⟩) L.length L.length/\A.eval (.tmp 18)=.int .i64 (L.length:Nat)/\A.eval (.tmp 19)=.int .i64 (k:Nat)/\PlAt w1 W b (linK L (k+1))/\(linK L (k+1)).o.length<=2500*(k+1)) ?_ (λC W2 hI=>?_)
  .refine aM<|aD<|qa ?_;refine qg (eB (i:=k) _ _ _ _ rfl SlcK.out SizK.out Qv Qv rfl hin _) ?_;refine qg (aR (v:=tV L[k]) _ _ rfl OneK.out Qv (m1.below hP.bel) Yo (by unfold qG;rw[show 0+k*1=k by omega,e1])) ?_;iterate 2 refine qa ?_
   refine aC<|aD ?_;iterate 2 refine qa ?_
   refine gX (WZ mx hm1 hT1 hP Yo L[k] Yo) ?_;rintro e w3 ⟨rfl,hP3⟩;generalize hb:(lZ (linK L k) L[k]).isSome=t;refine⟨.bool t,rfl,?_⟩;refine qa ?_;refine aC ?_;have hO:=hP;obtain⟨_,_,_,_,hO,_,_⟩:=hO
   cases t with
   |true=>
    refine aQ Qv ?_;obtain⟨t,et⟩:=Option.isSome_iff_exists.1 hb;rw[et] at hP3;have e2:linK L (k+1)=t:=by rw[linK_succ,e1];unfold linS;rw[et]
    refine uV ⟨rfl,YA,YB,Qv,Qv,Qv,Qv,?_,?_⟩
    .rw[e2];exact hP3
    .rw[e2];have:=aDL hO.ip hO.cl et;omega
   |false=>
    refine aT Qv ?_;have et:lZ (linK L k) L[k]=none:=Option.not_isSome_iff_eq_none.1 (by rw[hb];decide);rw[et] at hP3;have e2:linK L (k+1)={ linK L k with o:=(linK L k).o++([119,114,111,110,103,32]++itoa ((k+1:Nat):Int)++[10]) }:=by rw[linK_succ,e1];unfold linS;rw[et]
    have rk:R64 ((k:Int)+1):=by unfold R64;omega
    have ik:=nL rk;obtain⟨D,c,p,v,hO,hp,H⟩:=hP3;refine aJ ?_;iterate 3 refine qa ?_
    refine kX (uK ((k:Int)+1) rk _ (hT1.bel H.bel).pow) ?_;rintro e w4 ⟨rfl,k4⟩;replace H:=H.call k4;refine⟨_,rfl,?_⟩;refine aLB (t0:=[119,114,111,110,103,32]) (t1:=itoa ((k:Int)+1)) (t2:=[10]) H ?_;clear H;intro w5 H;have ho:(Option.getD none (linK L k)).o.length<=2500*k:=hol;refine gX (mX _ [[119,114,111,110,103,32],itoa ((k:Int)+1),[10]] 3 H.b2 hp (by simp only[List.flatten_cons,List.flatten_nil,List.length_append,List.length_cons,List.length_nil];omega) (show 3<=1000 by omega)) ?_;rintro e w6 ⟨p6,v6,rfl,hp6,H1⟩;refine⟨_,rfl,?_⟩;refine DJ ⟨rfl,YA,YB,Qv,Qv,Qv,Qv,?_,?_⟩
    .rw[e2];refine⟨D,c,p6,v6,{ nd:=hO.nd,x:=hO.x,cl:=hO.cl,ip:=hO.ip,bad:=hO.bad,ly:=hO.ly,lc:=hO.lc,by_:=hO.by_,fr:=hO.fr },hp6,?_⟩;rw[show [[119,114,111,110,103,32],itoa ((k:Int)+1),[10]].flatten=[119,114,111,110,103,32]++itoa ((k+1:Nat):Int)++[10] by simp] at H1;exact H1
    .rw[e2];show (_++_:List UInt8).length<=_
     rw[Int.natCast_add];simp only[List.length_append,List.length_cons,List.length_nil];have:(itoa ((k:Int)+((1:Nat):Int))).length<=20:=ik;omega
  .clear b5 b17 b18 b19 hs hd hP hol;obtain⟨hs,hd,b5,b17,b18,b19,hP,hol⟩:=hI;refine aJ (aG ?_);repeat refine qa ?_
   exact bD ⟨L.length-(k+1),Yo,k+1,Yo,Yo,YA,YB,Qv,Qv,Qv,Eq.trans Qv YC,hP,hol⟩
 .obtain rfl:k=L.length:=by have:=Xg hc;omega
  refine bY (eY ?_);obtain⟨D,c,p,v,hO,hp,H⟩:=hP;refine aD ?_;iterate 3 refine qa ?_
  refine kX (QF (linK L L.length).o H rfl) ?_;rintro e w3 ⟨rfl,k3⟩;refine⟨_,rfl,?_⟩;iterate 2 refine qa ?_
  refine aC ?_;exact aN (aK YB (pF rfl Qv Qv) ⟨rfl,k1.trans (k3.mono k1.size)⟩)
variable{c:UInt8}
theorem lL:∀{a:List UInt8},(∀b,b∈a->b≠c)->fA c (a++c::l)=a::fA c l
 |[],_=>by rw[List.nil_append,fA,if_pos rfl]
 |x::a,h=>by
  rw[List.cons_append,fA,if_neg (h x List.mem_cons_self),lL (λb hb=>h b (List.mem_cons_of_mem _ hb))]
theorem BL:∀{a:List UInt8},(∀b,b∈a->b≠c)->fA c a=[a]
 |[],_=>rfl
 |x::a,h=>by
  rw[fA,if_neg (h x List.mem_cons_self),BL (λb hb=>h b (List.mem_cons_of_mem _ hb))]
theorem EH:∀{L:List (List UInt8)},(∀a,a∈L->∀b,b∈a->b≠10)->fA 10 (L.flatMap λa=>a++[10])=L++[[]]
 |[],_=>rfl
 |a::L,h=>by
  rw[List.flatMap_cons,List.append_assoc];show fA 10 (a++10::(L.flatMap λa=>a++[10]))=_
  rw[lL (h a List.mem_cons_self),EH (λb hb=>h b (List.mem_cons_of_mem _ hb))];rfl
noncomputable def wI (t:Tn):List UInt8:=[116,117,110,101]++32::(gI t.Dt++32::(gI t.Q++32::(gI t.R++32::gI t.G)))
noncomputable def kY (k:Nat) (r:Nat->Int):List UInt8:=[114,101,97,100]++32::([UInt8.ofNat (48+k)]++32::(gI (r 0)++32::(gI (r 1)++32::gI (r 2))))
def P5:List UInt8:=[102,114,97,109,101]
noncomputable def Q0 (rd:Nat->Nat->Int):List (List UInt8):=[kY 0 (rd 0),kY 1 (rd 1),kY 2 (rd 2),kY 3 (rd 3),P5]
noncomputable def wG (t:Tn) (L:List (Nat->Nat->Int)):List (List UInt8):=wI t::L.flatMap Q0
noncomputable def A9 (t:Tn) (L:List (Nat->Nat->Int)):List UInt8:=(wG t L).flatMap λa=>a++[10]
theorem aFL(t:Tn):fA 32 (wI t)=[[116,117,110,101],gI t.Dt,gI t.Q,gI t.R,gI t.G]:=by
 unfold wI;rw[lL Yc,lL (λb hb=>(nI b hb).2),lL (λb hb=>(nI b hb).2),lL (λb hb=>(nI b hb).2),BL (λb hb=>(nI b hb).2)]
variable{k:Nat}
theorem ZT(hk:k<4):∀b,b∈[UInt8.ofNat (48+k)]->b≠10/\b≠32:=λb hb=>by
 rw[List.mem_singleton.1 hb]
 match k,hk with
 |0,_=>decide
 |1,_=>decide
 |2,_=>decide
 |3,_=>decide
 |n+4,h=>exact absurd h Yo
theorem aEs(hk:k<4)(r:Nat->Int):fA 32 (kY k r)=[[114,101,97,100],[UInt8.ofNat (48+k)],gI (r 0),gI (r 1),gI (r 2)]:=by
 unfold kY;rw[lL Yc,lL (λb hb=>(ZT hk b hb).2),lL (λb hb=>(nI b hb).2),lL (λb hb=>(nI b hb).2),BL (λb hb=>(nI b hb).2)]
theorem aJi(t:Tn):∀b,b∈wI t->b≠10:=λb hb=>by
 unfold wI at hb;simp only[List.mem_append,List.mem_cons,List.not_mem_nil,or_false] at hb;have h:=λa=>nI (a:=a) b
 grind
theorem X4(hk:k<4)(r:Nat->Int):∀b,b∈kY k r->b≠10:=λb hb=>by
 unfold kY at hb;have h:=λa=>nI (a:=a) b
 have h2:=ZT hk b;rw[List.mem_singleton] at h2;simp only[List.mem_append,List.mem_cons,List.not_mem_nil,or_false] at hb
 grind
theorem aIX(t:Tn)(L:List (Nat->Nat->Int)):∀a,a∈wG t L->∀b,b∈a->b≠10:=λa ha=>by
 rcases List.mem_cons.1 ha with rfl|ha
 .exact aJi t
 .obtain⟨rd,_,ha⟩:=List.mem_flatMap.1 ha;unfold Q0 at ha;simp only[List.mem_cons,List.not_mem_nil,or_false] at ha;rcases ha with rfl|rfl|rfl|rfl|rfl
  .exact X4 Yc _
  .exact X4 Yc _
  .exact X4 Yc _
  .exact X4 Yc _
  .decide
theorem aFq(t:Tn)(L:List (Nat->Nat->Int)):fA 10 (A9 t L)=wG t L++[[]]:=EH (aIX t L)
theorem OW{l:List Int}(h:∀a,a∈l->R64 a):numW (l.map gI)=some l:=by
 unfold numW;rw[if_pos]
 .rw[List.map_map];refine congrArg some ?_
  conv=>rhs;rw[<-List.map_id l]
  exact List.map_congr_left λa ha=>(KC (h a ha)).1
 .rw[List.all_map,List.all_eq_true];exact λa ha=>Xt (KC (h a ha)).2
theorem aHQ(s:Pl){t:Tn}(ht:t.Ok):lZ s (wI t)=some { s with c:=begC t }:=by
 unfold lZ;rw[if_neg (by unfold wI;exact λh=>nomatch h),aFL];have h:=OW (l:=[t.Dt,t.Q,t.R,t.G]) (by
  intro a ha;simp only[List.mem_cons,List.not_mem_nil,or_false] at ha;rcases ha with rfl|rfl|rfl|rfl
  .exact ht.1
  .exact ht.2
  .exact ht.3
  .exact ht.4)
 simp only[List.map_cons,List.map_nil] at h;dsimp only;rw[if_pos rfl];unfold tunP;rw[h]
def put1(f:Nat->Nat->Int)(i:Nat)(r:Nat->Int):Nat->Nat->Int:=λj q=>if j=i then gL [r 0,r 1,r 2] q else f j q
theorem aHm(hk:k<4):digW [UInt8.ofNat (48+k)] 3=some k:=by
 match k,hk with
 |0,_=>rfl
 |1,_=>rfl
 |2,_=>rfl
 |3,_=>rfl
 |n+4,h=>exact absurd h Yo
theorem U7(s:Pl)(hk:k<4){r:Nat->Int}(hr:∀a,R64 (r a)):lZ s (kY k r)=some { s with x:={ s.x with rd:=put1 s.x.rd k r } }:=by
 unfold lZ;rw[if_neg (by unfold kY;exact λh=>nomatch h),aEs hk];have h:=OW (l:=[r 0,r 1,r 2]) (by
  intro a ha;simp only[List.mem_cons,List.not_mem_nil,or_false] at ha;rcases ha with rfl|rfl|rfl<;>exact hr _)
 simp only[List.map_cons,List.map_nil] at h;dsimp only;rw[if_neg Yc,if_pos rfl];unfold nN;dsimp only;rw[aHm hk,h];rfl
theorem aHO(s:Pl)(hE:bU s.x s.c=0):lZ s P5=some ⟨frC s.x s.c,{ s.x with ly:=[] },s.o++(frR s.x s.c).flatMap rpT⟩:=by
 unfold lZ;rw[if_neg (λh=>nomatch h),show fA 32 P5=[[102,114,97,109,101]] by decide];dsimp only;rw[if_neg Yc,if_neg Yc,if_neg Yc,if_neg Yc,if_neg Yc,if_pos rfl];unfold qL;dsimp only;rw[if_pos hE]
theorem aHP(s:Pl):lZ s []=some s:=by
 unfold lZ;rw[if_pos rfl]
noncomputable def tT (s:Pl) (k:Nat):List (List UInt8)->Pl
 |[]=>s
 |l::r=>tT (linS s k l) (k+1) r
theorem aAF(L:List (List UInt8)):∀n k,k+n=L.length->tT (linK L k) k (L.drop k)=linK L L.length
 |0,k,h=>by
  rw[List.drop_eq_nil_of_le Yo];show linK L k=_
  rw[show k=L.length by omega]
 |n+1,k,h=>by
  have hk:k<L.length:=Yo;rw[List.drop_eq_getElem_cons hk];show tT (linS (linK L k) k L[k]) (k+1) _=_
  rw[<-aAF L n (k+1) Yo]
  congr 1
  show _=linS (linK L k) k (L.getD k [])
  rw[List.getD_eq_getElem?_getD,List.getElem?_eq_getElem hk];rfl
variable{r:List (List UInt8)}
theorem nM{t:Pl}(h:lZ s l=some t):tT s k (l::r)=tT t (k+1) r:=by
 show tT (linS s k l) (k+1) r=_
 unfold linS;rw[h]
def zT(f r:Nat->Nat->Int):Nat->Nat->Int:=put1 (put1 (put1 (put1 f 0 (r 0)) 1 (r 1)) 2 (r 2)) 3 (r 3)
def xM(f:Nat->Nat->Int):List (Nat->Nat->Int)->List Li
 |[]=>[]
 |r::L=>⟨zT f r, -1,[],none,0⟩::xM (zT f r) L
theorem uS:∀(L:List (Nat->Nat->Int)) (f:Nat->Nat->Int),(xM f L).length=L.length
 |[],_=>rfl
 |r::L,f=>by rw[xM,List.length_cons,uS L,List.length_cons]
theorem IB:∀(L:List (Nat->Nat->Int)) (f:Nat->Nat->Int) (c:Li),c∈xM f L->c.bad= -1/\c.LL=[]
 |r::L,f,c,h=>by
  rcases List.mem_cons.1 h with rfl|h
  .exact⟨rfl,rfl⟩
  .exact IB L _ c h
theorem QB(L:List (Nat->Nat->Int))(f:Nat->Nat->Int)(h:L.length<=12):zB (xM f L):=⟨by rw[uS];omega,λc hc=>by
 obtain⟨h1,h2⟩:=IB L f c hc;rw[h1,h2];exact⟨by decide,Xz _⟩⟩
theorem aIW(L:List (Nat->Nat->Int))(f:Nat->Nat->Int):LX (-1) (xM f L):=λc hc=>(IB L f c hc).1
noncomputable def nR (t:Tn) (M:List Li):Nat->List Nd
 |0=>[]
 |k+1=>nR t M k++(match M[k]? with|some c=>frR c.x (cK t M k)|none=>[])
variable{M:List Li}{c:Li}{t:Tn}
theorem BJ(h:M[k]?=some c):nR t M (k+1)=nR t M k++frR c.x (cK t M k):=by
 show nR t M k++_=_
 rw[h]
theorem VF{t:Tn}(hM:zB M):∀(L:List (Nat->Nat->Int)) (f:Nat->Nat->Int) (k q:Nat),(∀r,r∈L->∀j a,R64 (r j a))->M.drop k=xM f L->k<=M.length->(tT ⟨cK t M k,⟨f, -1,[]⟩,(nR t M k).flatMap rpT⟩ q (L.flatMap Q0++[[]])).o=(nR t M M.length).flatMap rpT
 |[],f,k,q,_,hd,hk=>by
  have h:M.length<=k:=by
   have:=congrArg List.length hd;rw[List.length_drop] at this;show _<=_
   have e:(xM f []).length=0:=rfl;omega
  obtain rfl:k=M.length:=Yo;show (tT _ q [[]]).o=_
  rw[nM (aHP _)];rfl
 |r::L,f,k,q,hR,hd,hk=>by
  have hr:=hR r List.mem_cons_self;have hk2:k<M.length:=by
   have:=congrArg List.length hd;rw[List.length_drop,uS,List.length_cons] at this;omega
  rw[List.drop_eq_getElem_cons hk2] at hd;obtain⟨e1,e2⟩:=List.cons.inj hd;have hc:M[k]?=some ⟨zT f r, -1,[],none,0⟩:=by rw[List.getElem?_eq_getElem hk2,e1]
  have hE:=(zH (t:=t) hM k hk).2.2 _ hc;rw[List.flatMap_cons,List.append_assoc];show (tT _ q (kY 0 (r 0)::kY 1 (r 1)::kY 2 (r 2)::kY 3 (r 3)::P5::(L.flatMap Q0++[[]]))).o=_
  rw[nM (U7 _ Yc (hr 0)),nM (U7 _ Yc (hr 1)),nM (U7 _ Yc (hr 2)),nM (U7 _ Yc (hr 3)),nM (aHO _ hE)];have ih:=VF (t:=t) hM L (zT f r) (k+1) (q+1+1+1+1+1) (λr' h=>hR r' (List.mem_cons_of_mem _ h)) e2 hk2;rw[yH hc,BJ hc,List.flatMap_append] at ih;exact ih
variable{L:List (Nat->Nat->Int)}
theorem aCc(ht:t.Ok):tT FN 0 (wG t L++[[]])=tT ⟨begC t,⟨λ_ _=>0, -1,[]⟩,[]⟩ 1 (L.flatMap Q0++[[]]):=by
 unfold wG;rw[List.cons_append,nM (aHQ FN ht)];rfl
variable{n:Nat}
theorem AR{α:Type}{f:α->List UInt8}:∀{L:List α},(∀a,a∈L->(f a).length<=n)->(L.flatMap f).length<=n*L.length
 |[],_=>Xr _
 |a::L,h=>by
  have h1:=h a List.mem_cons_self;have h2:=AR (L:=L) (λb hb=>h b (List.mem_cons_of_mem _ hb));rw[List.flatMap_cons,List.length_append,List.length_cons,Nat.mul_succ];omega
theorem QC(t:Tn)(L:List (Nat->Nat->Int)):(wG t L).length=1+5*L.length:=by
 unfold wG;rw[List.length_cons];have:∀L:List (Nat->Nat->Int),(L.flatMap Q0).length=5*L.length:=by
  intro L
  induction L with
  |nil=>rfl
  |cons r L ih=>rw[List.flatMap_cons,List.length_append,ih,List.length_cons];show 5+_=_;omega
 rw[this];omega
theorem aFp(ht:t.Ok)(hL:L.length<=12)(hR:∀r,r∈L->∀j a,R64 (r j a)):(A9 t L).length<=18300:=by
 have h:=AR (f:=λa:List UInt8=>a++[10]) (n:=300) (L:=wG t L) (λa ha=>by
  rw[List.length_append];show _+1<=300
  have l1:=dI ht.1;have l2:=dI ht.2;have l3:=dI ht.3;have l4:=dI ht.4;rcases List.mem_cons.1 ha with rfl|ha
  .unfold wI;simp only[List.length_append,List.length_cons,List.length_nil];omega
  .obtain⟨r,hr,ha⟩:=List.mem_flatMap.1 ha;have hr:=hR r hr;have hk:∀k,(kY k (r k)).length+1<=300:=λk=>by
    have l1:=dI (hr k 0);have l2:=dI (hr k 1);have l3:=dI (hr k 2);unfold kY;simp only[List.length_append,List.length_cons,List.length_nil];omega
   unfold Q0 at ha;simp only[List.mem_cons,List.not_mem_nil,or_false] at ha;rcases ha with rfl|rfl|rfl|rfl|rfl
   .exact hk 0
   .exact hk 1
   .exact hk 2
   .exact hk 3
   .decide)
 rw[QC] at h;unfold A9;omega
theorem aFr(ht:t.Ok)(hL:L.length<=12)(hR:∀r,r∈L->∀j a,R64 (r j a)):zR (A9 t L)=0/\zS (A9 t L)=(nR t (xM (λ_ _=>0) L) L.length).flatMap rpT:=by
 have h1:=aFp ht hL hR;have h2:=QC t L;have h3:(wG t L++[[]]).length=2+5*L.length:=by rw[List.length_append,h2];show _+1=_;omega
 unfold zR zS;rw[aFq,if_neg Yo,if_neg Yo,if_neg Yo,if_neg Yo];refine⟨rfl,?_⟩;have e:=aAF (wG t L++[[]]) _ 0 (Nat.zero_add _);rw[<-e];show (tT FN 0 _).o=_
 rw[List.drop_zero,aCc ht];have:=VF (t:=t) (QB L (λ_ _=>0) hL) L (λ_ _=>0) 0 1 hR rfl (Xz _);rw[uS] at this;exact this
variable{d j:Nat}
theorem aCu{o oj:Oper}{ops:Array Oper}{a:Act}{b:Bool}(hg:o.guard=some (j,b))(hj:ops[j]?=some oj)(hd:oj.dst=some d)(hv:a.eval (.tmp d)=undef):Region.wanted o (yielded ops a.tmps)=false:=by
 have h2:a.tmps.getD d undef=undef:=hv;have e:yielded ops a.tmps j=none:=by
  unfold yielded;rw[hj];simp only[Option.bind_some,hd];rcases Nat.lt_or_ge d a.tmps.size with h|h
  .have:a.tmps[d]?=some undef:=by simp[h] at h2 ⊢;exact h2
   rw[this];rfl
  .rw[Array.getElem?_eq_none h]
 simp[Region.wanted,hg,e]
section
variable {f:Operand->Value} {o:Oper}
theorem bW(x y:Operand)(ho:o.op=.binOp .add 9 x y 9){a b:List UInt8}(hx:f x=tV a)(hy:f y=tV b)(h:a.length+b.length<=9223372036854775807)(w:World):(execOp f o).run Tryz.prog w=.ok (.value (tV (a++b))) w:=by
 unfold execOp;rw[ho];dsimp only;rw[hx,hy];go_simp
 rw[if_neg Yo];refine congrArg (λs=>Result.ok (Next.value (Value.string s)) w) ?_;exact R8 (by rw[ByteArray.toList_eq,ByteArray.toList_eq];simp)
theorem yU(x:Operand)(ho:o.op=.convert 3 21 x)(hk:k<128)(hx:f x=.int .i64 (k:Int))(w:World):(execOp f o).run Tryz.prog w=.ok (.value (.int .i32 (k:Int))) w:=by
 unfold execOp;rw[ho];dsimp only;rw[hx];go_simp
 simp[IntKind.wrap,IntKind.bits,IntKind.signed];omega
theorem aBO(x:Operand)(ho:o.op=.convert 21 9 x)(hx:f x=.int .i32 48)(w:World):(execOp f o).run Tryz.prog w=.ok (.value (tV [48])) w:=by
 unfold execOp;rw[ho];dsimp only;rw[hx]
 kernel_rfl
theorem aBP(x:Operand)(ho:o.op=.convert 21 9 x)(hx:f x=.int .i32 49)(w:World):(execOp f o).run Tryz.prog w=.ok (.value (tV [49])) w:=by
 unfold execOp;rw[ho];dsimp only;rw[hx]
 kernel_rfl
theorem aBQ(x:Operand)(ho:o.op=.convert 21 9 x)(hx:f x=.int .i32 50)(w:World):(execOp f o).run Tryz.prog w=.ok (.value (tV [50])) w:=by
 unfold execOp;rw[ho];dsimp only;rw[hx]
 kernel_rfl
theorem aBR(x:Operand)(ho:o.op=.convert 21 9 x)(hx:f x=.int .i32 51)(w:World):(execOp f o).run Tryz.prog w=.ok (.value (tV [51])) w:=by
 unfold execOp;rw[ho];dsimp only;rw[hx]
 kernel_rfl
theorem aBS(x:Operand)(ho:o.op=.convert 21 9 x)(hx:f x=.int .i32 52)(w:World):(execOp f o).run Tryz.prog w=.ok (.value (tV [52])) w:=by
 unfold execOp;rw[ho];dsimp only;rw[hx]
 kernel_rfl
theorem aBT(x:Operand)(ho:o.op=.convert 21 9 x)(hx:f x=.int .i32 53)(w:World):(execOp f o).run Tryz.prog w=.ok (.value (tV [53])) w:=by
 unfold execOp;rw[ho];dsimp only;rw[hx]
 kernel_rfl
theorem aBU(x:Operand)(ho:o.op=.convert 21 9 x)(hx:f x=.int .i32 54)(w:World):(execOp f o).run Tryz.prog w=.ok (.value (tV [54])) w:=by
 unfold execOp;rw[ho];dsimp only;rw[hx]
 kernel_rfl
theorem aBV(x:Operand)(ho:o.op=.convert 21 9 x)(hx:f x=.int .i32 55)(w:World):(execOp f o).run Tryz.prog w=.ok (.value (tV [55])) w:=by
 unfold execOp;rw[ho];dsimp only;rw[hx]
 kernel_rfl
theorem aBW(x:Operand)(ho:o.op=.convert 21 9 x)(hx:f x=.int .i32 56)(w:World):(execOp f o).run Tryz.prog w=.ok (.value (tV [56])) w:=by
 unfold execOp;rw[ho];dsimp only;rw[hx]
 kernel_rfl
theorem aBX(x:Operand)(ho:o.op=.convert 21 9 x)(hx:f x=.int .i32 57)(w:World):(execOp f o).run Tryz.prog w=.ok (.value (tV [57])) w:=by
 unfold execOp;rw[ho];dsimp only;rw[hx]
 kernel_rfl
theorem wE(x:Operand)(ho:o.op=.convert 21 9 x)(hk:k<10)(hx:f x=.int .i32 ((48+k:Nat):Int))(w:World):(execOp f o).run Tryz.prog w=.ok (.value (tV [UInt8.ofNat (48+k)])) w:=by
 have h:k=0\/k=1\/k=2\/k=3\/k=4\/k=5\/k=6\/k=7\/k=8\/k=9:=Yo;rcases h with rfl|rfl|rfl|rfl|rfl|rfl|rfl|rfl|rfl|rfl
 .exact aBO x ho hx w
 .exact aBP x ho hx w
 .exact aBQ x ho hx w
 .exact aBR x ho hx w
 .exact aBS x ho hx w
 .exact aBT x ho hx w
 .exact aBU x ho hx w
 .exact aBV x ho hx w
 .exact aBW x ho hx w
 .exact aBX x ho hx w
theorem aBM(x y:Operand)(ho:o.op=.binOp .quo 3 x y 3)(hx:f x=.int .i64 (n:Int))(hy:f y=.int .i64 10)(hn:n<100)(w:World):(execOp f o).run Tryz.prog w=.ok (.value (.int .i64 ((n/10:Nat):Int))) w:=by
 have e:(n:Int).tdiv 10=((n/10:Nat):Int):=by rw[Int.tdiv_eq_ediv_of_nonneg Yo];omega
 have e2:IntKind.i64.wrap ((n/10:Nat):Int)=((n/10:Nat):Int):=by rw[IntKind.wrap_i64];omega
 unfold execOp;rw[ho];dsimp only;rw[hx,hy];generalize n/10=m at e e2 ⊢;go_simp
theorem aBN(x y:Operand)(ho:o.op=.binOp .rem 3 x y 3)(hx:f x=.int .i64 (n:Int))(hy:f y=.int .i64 10)(w:World):(execOp f o).run Tryz.prog w=.ok (.value (.int .i64 ((n%10:Nat):Int))) w:=by
 have e:(n:Int).tmod 10=((n%10:Nat):Int):=by rw[Int.tmod_eq_emod_of_nonneg Yo];omega
 unfold execOp;rw[ho];dsimp only;rw[hx,hy];generalize n%10=m at e ⊢;go_simp
theorem wC(x:Operand)(ho:o.op=.call { callee:=.builtin .len,args:=#[x],argTypes:=#[9] })(hx:f x=tV l)(w:World):(execOp f o).run Tryz.prog w=.ok (.value (.int .i64 (l.length:Nat))) w:=by
 rw[xL x ho hx w];rfl
theorem XN(x y z:Operand)(ho:o.op=.slice 9 x (some y) (some z) none){p m q:List UInt8}{a b:Int}(hx:f x=tV (p++(m++q)))(hy:f y=.int .i64 a)(hz:f z=.int .i64 b)(ha:a=(p.length:Nat))(hb:b=(p.length+m.length:Nat))(w:World):(execOp f o).run Tryz.prog w=.ok (.value (tV m)) w:=by
 subst ha hb;have h1:((p.length:Nat):Int)<=((p.length+m.length:Nat):Int):=Yo;have h2:((p.length+m.length:Nat):Int)<=(((p++(m++q)).length:Nat):Int):=by rw[List.length_append,List.length_append];omega
 unfold execOp;rw[ho];simp only[Option.map_some,Option.map_none];rw[hx,hy,hz];go_simp
 rw[if_pos ⟨Yo,Yo⟩,if_pos Yo,show ((p.length:Nat):Int)+((m.length:Nat):Int)=((p.length+m.length:Nat):Int) by omega,Int.toNat_natCast];refine congrArg (λs=>Result.ok (Next.value (Value.string s)) w) (R8 ?_);rw[ByteArray.toList_eq,ByteArray.toList_eq,Lib.extract_data];simp
theorem JV{b:Bool}(x y:Operand)(ho:o.op=.binOp .neq 5 x y 5){u v:Int}(hx:f x=.int .u8 u)(hy:f y=.int .u8 v)(hb:decide (u≠v)=b)(w:World):(execOp f o).run Tryz.prog w=.ok (.value (.bool b)) w:=by
 subst hb;unfold execOp;rw[ho];dsimp only;rw[hx,hy];go_simp
 by_cases h:u=v
 .rw[h];simp
 .simp[h]
end
instance iScr_1:EntK Tryz.prog 9:=⟨λargs w=>Yh⟩
instance iScr_2:EntK Tryz.prog 12:=⟨λargs w=>Yh⟩
theorem TB(k:Nat)(hk:k<4)(r:Nat->Int)(hr:∀a,R64 (r a))(w:World)(hT:TabOK w):Calls Tryz.prog 9 #[.int .i64 (k:Int),aP (iF r) 0 3] w λe w'=>e=.returned (tV (kY k r++[10]))/\Below w.heap.size w w':=by
 have l0:=dI (hr 0);have l1:=dI (hr 1);have l2:=dI (hr 2);refine bB Tryz.func9 rfl 26 rfl Yd (λA hs hd hb=>?_);have b0:A.eval (.tmp 0)=.int .i64 (k:Int):=hb 0 _ rfl;have b1:A.eval (.tmp 1)=aP (iF r) 0 3:=hb 1 _ rfl;clear hb;have H:=Cx.start w;refine aD (aG ?_);refine lJ H ?_;clear H;intro w1 H z1;refine qa ?_;refine aC ?_;replace H:=H.drew;have hS:Its [bE 37 w.heap.size 3 3 (iF r)] w1.drew:=Its.cons H.o0 (Its.nil _);refine aH<|eU (S:=Its [bE 37 w.heap.size 3 3 (iF r)]) (.mv 0 (.mv 1 (.mv 2 (.mv 3 (.mv 4 (.mv 5 (.mv 6 (.rd 7 (.mv 11 (.rd 12 (.mv 16 (.rd 17 (.go 8 (.mv 9 (.mv 10 (.go 13 (.mv 14 (.mv 15 (.go 18 (.mv 19 (.mv 20 (.mv 21 .fin)))))))))))))))))))))) [] Yl Yl ?_;refine qj ?_;refine bS rfl rfl (λ_ _ _ h=>h) Yw (λw=>(jO _ _ rfl Qv Qv Yo Yo w).trans (by rw[show (48:Int)+(k:Int)=((48+k:Nat):Int) by omega])) ?_;refine bS rfl rfl (λ_ _ _ h=>h) Yw (λw=>yU (k:=48+k) _ rfl Yo Qv w) ?_;refine bS rfl rfl (λ_ _ _ h=>h) Yw (λw=>wE (k:=k) _ rfl Yo Qv w) ?_;refine bS rfl rfl (λ_ _ _ h=>h) Yw (λw=>bW (a:=[114,101,97,100,32]) _ _ rfl rfl Qv (by simp only[List.length_cons,List.length_nil];omega) w) ?_;refine bS rfl rfl (λ_ _ _ h=>h) Yw (λw=>bW (b:=[32]) _ _ rfl Qv rfl (by simp only[List.length_append,List.length_cons,List.length_nil];omega) w) ?_;refine bS rfl rfl (λ_ _ _ h=>h) Yw (λw=>bQ (i:=0) _ _ _ _ rfl ArrK.out SizK.out Qv Qv rfl Yo w) ?_;refine Yr rfl hS (λ_ H=>aR (v:=.int .i64 (r 0)) _ _ rfl OneK.out Qv H.v0 Yo rfl) ?_;refine bS rfl rfl (λ_ _ _ h=>h) Yw (λw=>bQ (i:=1) _ _ _ _ rfl ArrK.out SizK.out Qv Qv rfl Yo w) ?_;refine Yr rfl hS (λ_ H=>aR (v:=.int .i64 (r 1)) _ _ rfl OneK.out Qv H.v0 Yo rfl) ?_;refine bS rfl rfl (λ_ _ _ h=>h) Yw (λw=>bQ (i:=2) _ _ _ _ rfl ArrK.out SizK.out Qv Qv rfl Yo w) ?_;refine Yr rfl hS (λ_ H=>aR (v:=.int .i64 (r 2)) _ _ rfl OneK.out Qv H.v0 Yo rfl) ?_;refine bR rfl rfl Yw (λK hK=>aX _ _ _ _ rfl Qv (EntK.out _ _) (fK (r 0) (hr 0) _ (hT.bel H.bel)) ?_);rintro e w2 ⟨rfl,k2⟩;replace H:=H.call k2;refine⟨_,rfl,hK _ _ (λ_ _=>Its.cons H.o0 (Its.nil _)) ?_⟩;clear hK K;refine bS rfl rfl (λ_ _ _ h=>h) Yw (λw=>bW _ _ rfl Qv Qv (by simp only[List.length_append,List.length_cons,List.length_nil];omega) w) ?_;refine bS rfl rfl (λ_ _ _ h=>h) Yw (λw=>bW (b:=[32]) _ _ rfl Qv rfl (by simp only[List.length_append,List.length_cons,List.length_nil];omega) w) ?_;refine bR rfl rfl Yw (λK hK=>aX _ _ _ _ rfl Qv (EntK.out _ _) (fK (r 1) (hr 1) _ (hT.bel H.bel)) ?_);rintro e w3 ⟨rfl,k3⟩;replace H:=H.call k3;refine⟨_,rfl,hK _ _ (λ_ _=>Its.cons H.o0 (Its.nil _)) ?_⟩;clear hK K;refine bS rfl rfl (λ_ _ _ h=>h) Yw (λw=>bW _ _ rfl Qv Qv (by simp only[List.length_append,List.length_cons,List.length_nil];omega) w) ?_;refine bS rfl rfl (λ_ _ _ h=>h) Yw (λw=>bW (b:=[32]) _ _ rfl Qv rfl (by simp only[List.length_append,List.length_cons,List.length_nil];omega) w) ?_;refine bR rfl rfl Yw (λK hK=>aX _ _ _ _ rfl Qv (EntK.out _ _) (fK (r 2) (hr 2) _ (hT.bel H.bel)) ?_);rintro e w4 ⟨rfl,k4⟩;replace H:=H.call k4;refine⟨_,rfl,hK _ _ (λ_ _=>Its.cons H.o0 (Its.nil _)) ?_⟩;clear hK K;refine bS rfl rfl (λ_ _ _ h=>h) Yw (λw=>bW _ _ rfl Qv Qv (by simp only[List.length_append,List.length_cons,List.length_nil];omega) w) ?_;refine bS rfl rfl (λ_ _ _ h=>h) Yw (λw=>bW (b:=[10]) _ _ rfl Qv rfl (by simp only[List.length_append,List.length_cons,List.length_nil];omega) w) ?_;refine qj ?_;refine fI<|aN (aK YB (bL rfl Qv) ⟨?_,H.bel⟩);unfold kY;simp only[List.append_assoc,List.cons_append,List.nil_append]
theorem TZ(h:n<100):itoa (n:Nat)=if n<10 then [UInt8.ofNat (48+n)] else [UInt8.ofNat (48+n/10),UInt8.ofNat (48+n%10)]:=by
 unfold itoa;rw[if_neg Yo,show ((n:Nat):Int).toNat=n from rfl,decDigits];split
 .rfl
 .rw[decDigits,dif_pos Yo];rfl
theorem XP(n:Nat)(hn:n<100)(w:World):Calls Tryz.prog 12 #[.int .i64 (n:Int)] w λe w'=>e=.returned (tV (itoa (n:Nat)))/\Below w.heap.size w w':=by
 refine bB Tryz.func12 rfl 20 rfl Yd (λA hs hd hb=>?_);have b0:A.eval (.tmp 0)=.int .i64 (n:Int):=hb 0 _ rfl;clear hb;refine aD (aG ?_);refine qa ?_;refine aC<|aH<|aD<|qa ?_;rw[TZ hn];by_cases h:n<10
 .rw[if_pos h];refine qg (iC (b:=true) _ _ rfl Qv Qv (Xt Yo) _) ?_;refine aC<|aT Qv ?_;refine aD<|qa ?_;refine qg ((jO _ _ rfl Qv Qv Yo Yo _).trans (by rw[show (48:Int)+(n:Int)=((48+n:Nat):Int) by omega])) ?_;refine qg (yU (k:=48+n) _ rfl Yo Qv _) ?_;refine qg (wE (k:=n) _ rfl Yo Qv _) ?_;refine qa ?_;refine aC ?_;exact aN (fC (aK YB (bL rfl Qv) ⟨rfl,Below.refl _ _⟩))
 .rw[if_neg h];refine qg (iC (b:=false) _ _ rfl Qv Qv (Xf Yo) _) ?_;refine aC<|aQ Qv ?_;refine aS<|aD<|qa ?_;refine qg (aBM _ _ rfl Qv Qv hn _) ?_;refine qg ((jO _ _ rfl Qv Qv Yo Yo _).trans (by rw[show (48:Int)+((n/10:Nat):Int)=((48+n/10:Nat):Int) by omega])) ?_;refine qg (yU (k:=48+n/10) _ rfl Yo Qv _) ?_;refine qg (wE (k:=n/10) _ rfl Yo Qv _) ?_;refine qa ?_;refine qg (aBN _ _ rfl Qv Qv _) ?_;refine qg ((jO _ _ rfl Qv Qv Yo Yo _).trans (by rw[show (48:Int)+((n%10:Nat):Int)=((48+n%10:Nat):Int) by omega])) ?_;refine qg (yU (k:=48+n%10) _ rfl Yo Qv _) ?_;refine qg (wE (k:=n%10) _ rfl Yo Qv _) ?_;refine qg (bW _ _ rfl Qv Qv (by simp only[List.length_cons,List.length_nil];omega) _) ?_;refine qa ?_;refine aC ?_;exact aN (aK YB (bL rfl Qv) ⟨rfl,Below.refl _ _⟩)
noncomputable def uA (rd:Nat->Nat->Int):Nat->List UInt8
 |0=>[]
 |j+1=>uA rd j++(kY j (rd j)++[10])
noncomputable def uB (t:Tn) (R:List (Nat->Nat->Int)) (k:Nat):List UInt8:=(wI t++[10])++(R.take k).flatMap λrd=>uA rd 4++(P5++[10])
theorem aFn(t:Tn)(R:List (Nat->Nat->Int)):uB t R R.length=A9 t R:=by
 unfold uB A9 wG;rw[List.take_length,List.flatMap_cons]
 congr 1
 induction R with
 |nil=>rfl
 |cons r R ih=>
  rw[List.flatMap_cons,List.flatMap_cons,List.flatMap_append, <-ih]
  congr 1
  unfold Q0;simp only[uA,List.flatMap_cons,List.flatMap_nil,List.append_assoc,List.append_nil,List.nil_append]
variable{R:List (Nat->Nat->Int)}
theorem JW{r:Nat->Nat->Int}(h:R[k]?=some r):uB t R (k+1)=uB t R k++(uA r 4++(P5++[10])):=by
 obtain⟨hk,e⟩:=List.getElem?_eq_some_iff.1 h;unfold uB;rw[<-List.take_append_getElem hk,List.flatMap_append,List.flatMap_cons,List.flatMap_nil,List.append_nil,e];simp only[List.append_assoc]
variable{r:Nat->Int}
theorem PK(hr:∀a,R64 (r a)):(kY k r++[10]).length<=145:=by
 have l1:=dI (hr 0);have l2:=dI (hr 1);have l3:=dI (hr 2);unfold kY;simp only[List.length_append,List.length_cons,List.length_nil];omega
variable{rd:Nat->Nat->Int}
theorem zV(hr:∀j a,R64 (rd j a)):∀j,(uA rd j).length<=145*j
 |0=>Xr _
 |j+1=>by
  have h1:=zV hr j;have h2:=PK (k:=j) (hr j);unfold uA;rw[List.length_append];omega
theorem aFo(ht:t.Ok)(hR:∀r,r∈R->∀j a,R64 (r j a))(k:Nat)(hk:k<=12):(uB t R k).length<=10000:=by
 have h:=AR (f:=λrd=>uA rd 4++(P5++[10])) (n:=600) (L:=R.take k) (λr hr=>by
  have:=zV (hR r (List.mem_of_mem_take hr)) 4;rw[List.length_append];show _+6<=_
  omega)
 rw[List.length_take] at h;have l1:=dI ht.1;have l2:=dI ht.2;have l3:=dI ht.3;have l4:=dI ht.4;unfold uB wI;simp only[List.length_append,List.length_cons,List.length_nil];omega
theorem aIv(f r:Nat->Nat->Int){q:Nat}(hj:j<4)(hq:q<3):zT f r j q=r j q:=by
 unfold zT put1;have h4:j=0\/j=1\/j=2\/j=3:=Yo;have h3:q=0\/q=1\/q=2:=Yo;rcases h4 with rfl|rfl|rfl|rfl<;>rcases h3 with rfl|rfl|rfl<;>rfl
variable{f:Nat->Nat->Int}{i:Nat}
theorem DW(hf:∀j a,R64 (f j a))(hr:∀a,R64 (r a)):∀j a,R64 (put1 f i r j a):=λj a=>by
 unfold put1;split
 .exact vJ (λx hx=>by
   simp only[List.mem_cons,List.not_mem_nil,or_false] at hx;rcases hx with rfl|rfl|rfl<;>exact hr _) a
 .exact hf j a
theorem aBd{r:Nat->Nat->Int}(hf:∀j a,R64 (f j a))(hr:∀j a,R64 (r j a)):∀j a,R64 (zT f r j a):=DW (DW (DW (DW hf (hr 0)) (hr 1)) (hr 2)) (hr 3)
theorem EB:∀(R:List (Nat->Nat->Int)) (f:Nat->Nat->Int),(∀j a,R64 (f j a))->(∀r,r∈R->∀j a,R64 (r j a))->∀(k:Nat) (r:Nat->Nat->Int),R[k]?=some r->∃g:Nat->Nat->Int,(xM f R)[k]?=some (⟨g, -1,[],none,0⟩:Li)/\(∀j q,j<4->q<3->g j q=r j q)/\∀j a,R64 (g j a)
 |r0::R,f,hf,hR,0,r,h=>by
  obtain rfl:r0=r:=Option.some.inj h;exact⟨zT f r0,rfl,λj q hj hq=>aIv f r0 hj hq,aBd hf (hR r0 List.mem_cons_self)⟩
 |r0::R,f,hf,hR,k+1,r,h=>EB R (zT f r0) (aBd hf (hR r0 List.mem_cons_self)) (λr hr=>hR r (List.mem_cons_of_mem _ hr)) k r h
noncomputable def DY (n:Nd):List UInt8:=[110,111,100,101,32]++itoa n.id++[32,102,114,97,109,101,32]++itoa n.fr++wQ n 3++[32]
noncomputable def PO (n:Nd):List UInt8:=kU n.dg.toNat++(if n.vS then [] else [32,119,101,97,107])++tH n.rl.I 4
theorem JR(n:Nd):rpT n=DY n++PO n++[10]:=by
 unfold rpT DY PO;simp only[List.append_assoc]
theorem GI{n:Int}:∀b,b∈itoa n->b≠10:=λb hb=>by
 unfold itoa at hb;have dig:∀m:Nat,b∈decDigits m->b≠10:=λm h=>(UK (List.all_eq_true.1 (rD m) b h)).1
 split at hb
 .rcases List.mem_cons.1 hb with rfl|hb
  .decide
  .exact dig _ hb
 .exact dig _ hb
theorem UH(h:d<16):oL d≠10:=by
 have:∀d:Fin 16,oL d.val≠10:=by decide
 exact this ⟨d,h⟩
theorem aHz(u:Nat):∀b,b∈kU u->b≠10:=by
 induction u using Nat.strongRecOn with
 |_ u ih=>
  intro b hb;by_cases c:u<16
  .rw[uJ c] at hb;rw[List.mem_singleton.1 hb];exact UH c
  .rw[P7 Yo] at hb;rcases List.mem_append.1 hb with hb|hb
   .exact ih (u/16) Yo b hb
   .rw[List.mem_singleton.1 hb];exact UH Yo
theorem YV(n:Nd):∀a b,b∈wQ n a->b≠10
 |0,_,h=>nomatch h
 |a+1,b,h=>by
  unfold wQ at h;simp only[List.mem_append,List.mem_cons,List.not_mem_nil,or_false] at h;have h1:=YV n a b;have h2:=λx=>nI (a:=x) b
  grind
theorem aAS(I:Nat->Bool):∀i b,b∈tH I i->b≠10
 |0,_,h=>nomatch h
 |i+1,b,h=>by
  unfold tH at h;rcases List.mem_append.1 h with h|h
  .exact aAS I i b h
  .split at h
   .cases h
   .rcases List.mem_append.1 h with h|h
    .simp only[List.mem_cons,List.not_mem_nil,or_false] at h;rcases h with rfl|rfl|rfl|rfl<;>decide
    .exact GI b h
theorem aLE(n:Nd):∀b,b∈DY n++PO n->b≠10:=λb hb=>by
 unfold DY PO at hb;have h1:=GI (n:=n.id) b;have h2:=GI (n:=n.fr) b;have h3:=YV n 3 b;have h4:=aHz n.dg.toNat b;have h5:=aAS n.rl.I 4 b;simp only[List.mem_append] at hb;rcases hb with (((((hb|hb)|hb)|hb)|hb)|hb)|((hb|hb)|hb)
 .simp only[List.mem_cons,List.not_mem_nil,or_false] at hb;rcases hb with rfl|rfl|rfl|rfl|rfl<;>decide
 .exact h1 hb
 .simp only[List.mem_cons,List.not_mem_nil,or_false] at hb;rcases hb with rfl|rfl|rfl|rfl|rfl|rfl|rfl<;>decide
 .exact h2 hb
 .exact h3 hb
 .rw[List.mem_singleton.1 hb];decide
 .exact h4 hb
 .split at hb
  .cases hb
  .simp only[List.mem_cons,List.not_mem_nil,or_false] at hb;rcases hb with rfl|rfl|rfl|rfl|rfl<;>decide
 .exact h5 hb
theorem VE(hM:zB M)(h1:LX (-1) M)(ht:t.Ok)(hx:∀c,c∈M->IpOK c.x):∀k,k<=M.length->∀n,n∈nR t M k->NdOK n/\(∃i:Nat,i<4/\n.id=(i:Nat))/\(∃j:Nat,j<k/\n.fr=(j:Nat))
 |0,_,n,h=>nomatch h
 |k+1,hk,n,h=>by
  have hc:M[k]?=some M[k]:=List.getElem?_eq_getElem Yo;rw[BJ hc] at h;rcases List.mem_append.1 h with h|h
  .obtain⟨a,b,j,hj,e⟩:=VE hM h1 ht hx k Yo n h;exact⟨a,b,j,Yo,e⟩
  .obtain⟨i,hi,_,_,e1,e2⟩:=aHt (t:=t) hM h1 hc h;exact⟨(NH (hx _ (List.mem_of_getElem? hc)) (CK ht hx k) h).1,⟨i,hi,e1⟩,k,Yo,e2⟩
theorem IC(t:Tn)(M:List Li):∀k,(nR t M k).length<=4*k
 |0=>Xr _
 |k+1=>by
  have ih:=IC t M k;show (nR t M k++_).length<=_
  rw[List.length_append];split
  .rename_i c _;have:=U5 c.x (cK t M k);omega
  .show _+0<=_
   omega
section
variable {f:Operand->Value} {o:Oper}
theorem XG{a:Operand}(ho:o.op=.build 52 #[(0,a),(1,.const (.int .i64 (-1)))])(ha:f a=aP (qU rd) 0 12)(w:World)(hc:∀v,f (.const v)=v:=by exact λ_=>rfl):(execOp f o).run Tryz.prog w=.ok (.value (aP (lY rd (-1) (.slice none 0 0)) 0 14)) w:=by
 unfold execOp;rw[ho];simp only[List.map_toArray,List.map_cons,List.map_nil,ha,hc]
 kernel_rfl
theorem aBA(x:Operand)(ho:o.op=.slice 28 x none (some (.const (.int .i64 12))) none){a:Addr}{cap:Nat}(hx:f x=.slice (some a) n cap)(hc:12<=cap)(w:World)(hk:∀v,f (.const v)=v:=by exact λ_=>rfl):(execOp f o).run Tryz.prog w=.ok (.value (.slice (some a) 12 cap)) w:=by
 have hc2:(12:Int)<=cap:=Yo;unfold execOp;rw[ho];simp only[Option.map_some,Option.map_none];rw[hx,hk];go_simp
end
theorem aKS{g:Nat->Nat->Int}(h:∀j q,j<4->q<3->g j q=c.rd j q)(hj:j<12):tQ c j=qU g j:=by
 unfold tQ lY qU;rw[if_pos hj,h (j/3) (j%3) Yo Yo]
theorem aHD(hi:i<4)(hj:j<3):tQ c (i*3+j)=iF (c.rd i) j:=by
 unfold tQ lY iF;rw[if_pos Yo,show (i*3+j)/3=i by omega,show (i*3+j)%3=j by omega];rfl
theorem TL(w:World):JRd w none []:=⟨λhl=>absurd hl (Nat.lt_irrefl 0),λ_ h=>nomatch h⟩
variable{Q:Exit->Act->World->Prop}
theorem aKd{P:Program}{a:Act}{y:Code}(T:Act->World->Prop)(h0:T a w)(h:∀A W,T A W->CodI P y Q A W):CodI P y Q a w:=h _ _ h0
variable{c:List PanicEntry}
theorem mU{p q:Prop}(h:Exit.panic c=Exit.normal/\p):q:=nomatch h.1
def SpT(t:Tn)(w:World)(R:List (Nat->Nat->Int))(A:Act)(W:World):Prop:=∃v7:Value,A.tmps.size=198/\A.defers=[]/\A.eval (.tmp 5)=tV (A9 t R)/\A.eval (.tmp 7)=v7/\Cx w W [fF w.heap.size 57 14 v7 (nR t (xM (λ_ _=>0) R) R.length).length (kG gH 14 (nR t (xM (λ_ _=>0) R) R.length))]
set_option maxRecDepth 10000 in
theorem IJ(t:Tn)(mo:Option Addr)(mc:Nat)(L:List Li)(ht:t.Ok)(hr:RdS tQ 14 w mo L)(hok:∀c,c∈L->LiOK w c)(hlc:L.length<=mc)(mx:Int)(hm:w.cell? ⟨1,0,none⟩=some (.int .i64 mx))(hT:TabOK w):Calls Tryz.prog 4 #[aP (kW t) 0 4,.slice mo L.length mc] w λe w'=>e=.returned (.bool true)/\Below w.heap.size w w':=by
 obtain⟨R,eR⟩:∃R:List (Nat->Nat->Int),R=(L.take 12).map Li.rd:=⟨_,rfl⟩;have hRl:R.length<=12:=by rw[eR,List.length_map,List.length_take];omega
 have hRR:∀r,r∈R->∀j a,R64 (r j a):=λr h=>by
  rw[eR] at h;obtain⟨c,hc,rfl⟩:=List.mem_map.1 h;exact (hok c (List.mem_of_mem_take hc)).ip.rd
 have hget:∀(k:Nat) (r:Nat->Nat->Int),R[k]?=some r->∃c:Li,L[k]?=some c/\c.rd=r:=λk r h=>by
  rw[eR,List.getElem?_map] at h;obtain⟨c,hc,e⟩:=Option.map_eq_some_iff.1 h;rw[List.getElem?_take] at hc;split at hc
  .exact⟨c,hc,e⟩
  .cases hc
 have d1:=dI ht.1;have d2:=dI ht.2;have d3:=dI ht.3;have d4:=dI ht.4;refine bB Tryz.func4 rfl 198 rfl Yd (λA hs hd hb=>?_);have b0:A.eval (.tmp 0)=aP (kW t) 0 4:=hb 0 _ rfl;have b1:A.eval (.tmp 1)=.slice mo L.length mc:=hb 1 _ rfl;clear hb;have H:=Cx.start w;refine aD (aG ?_);refine lJ H ?_;clear H;intro w1 H z1;refine qa ?_;refine aC<|zI (λA W=>W=w1/\A.tmps.size=198/\A.defers=[]/\A.eval (.tmp 1)=.slice mo R.length mc/\A.eval (.tmp 2)=.pointer (some ⟨w.heap.size,0,none⟩)) ?_ (λC W2 hI=>?_)
 .refine aD ?_;iterate 2 refine qa ?_
  by_cases h12:12<L.length
  .refine qg (fV (b:=true) _ _ rfl Qv Qv (Xt Yo) _) ?_;refine aC<|aT Qv ?_;obtain⟨pb,po,rfl,_⟩:=hr Yo;refine aJ<|qa ?_;refine qg (aBA _ rfl Qv Yo _) ?_;refine qa ?_;have e12:R.length=12:=by rw[eR,List.length_map,List.length_take];omega
   exact DJ ⟨rfl,rfl,YA,YB,by rw[e12];exact Qv,Qv⟩
  .refine qg (fV (b:=false) _ _ rfl Qv Qv (Xf Yo) _) ?_;refine aC<|aQ Qv ?_;have e12:R.length=L.length:=by rw[eR,List.length_map,List.length_take];omega
   exact uV ⟨rfl,rfl,YA,YB,by rw[e12];exact Qv,Qv⟩
 clear b0 b1 hs hd;obtain⟨rfl,hs,hd,b1,b2⟩:=hI;replace H:=H.drew;have hS:Its [bE 27 w.heap.size 4 4 (kW t)] W2.drew:=Its.cons H.o0 (Its.nil _);refine aH<|eU (S:=Its [bE 27 w.heap.size 4 4 (kW t)]) (.mv 0 (.rd 1 (.mv 5 (.rd 6 (.mv 10 (.rd 11 (.mv 15 (.rd 16 (.go 2 (.mv 3 (.mv 4 (.go 7 (.mv 8 (.mv 9 (.go 12 (.mv 13 (.mv 14 (.go 17 (.mv 18 (.mv 19 (.mv 20 .fin))))))))))))))))))))) [] Yl Yl ?_;refine GJ ?_;refine qj ?_;refine Yr rfl hS (λ_ H=>aR (v:=.int .i64 t.Dt) _ _ rfl OneK.out Qv H.v0 Yo rfl) ?_;refine qj ?_;refine Yr rfl hS (λ_ H=>aR (v:=.int .i64 t.Q) _ _ rfl OneK.out Qv H.v0 Yo rfl) ?_;refine qj ?_;refine Yr rfl hS (λ_ H=>aR (v:=.int .i64 t.R) _ _ rfl OneK.out Qv H.v0 Yo rfl) ?_;refine qj ?_;refine Yr rfl hS (λ_ H=>aR (v:=.int .i64 t.G) _ _ rfl OneK.out Qv H.v0 Yo rfl) ?_;refine bR rfl rfl Yw (λK hK=>aX _ _ _ _ rfl Qv (EntK.out _ _) (fK t.Dt ht.1 _ (hT.bel H.bel)) ?_);rintro e w2 ⟨rfl,k2⟩;replace H:=H.call k2;refine⟨_,rfl,hK _ _ (λ_ _=>Its.cons H.o0 (Its.nil _)) ?_⟩;clear hK K;refine bS rfl rfl (λ_ _ _ h=>h) Yw (λw=>bW (a:=[116,117,110,101,32]) _ _ rfl rfl Qv (by simp only[List.length_cons,List.length_nil];omega) w) ?_;refine bS rfl rfl (λ_ _ _ h=>h) Yw (λw=>bW (b:=[32]) _ _ rfl Qv rfl (by simp only[List.length_append,List.length_cons,List.length_nil];omega) w) ?_;refine bR rfl rfl Yw (λK hK=>aX _ _ _ _ rfl Qv (EntK.out _ _) (fK t.Q ht.2 _ (hT.bel H.bel)) ?_);rintro e w3 ⟨rfl,k3⟩;replace H:=H.call k3;refine⟨_,rfl,hK _ _ (λ_ _=>Its.cons H.o0 (Its.nil _)) ?_⟩;clear hK K;refine bS rfl rfl (λ_ _ _ h=>h) Yw (λw=>bW _ _ rfl Qv Qv (by simp only[List.length_append,List.length_cons,List.length_nil];omega) w) ?_;refine bS rfl rfl (λ_ _ _ h=>h) Yw (λw=>bW (b:=[32]) _ _ rfl Qv rfl (by simp only[List.length_append,List.length_cons,List.length_nil];omega) w) ?_;refine bR rfl rfl Yw (λK hK=>aX _ _ _ _ rfl Qv (EntK.out _ _) (fK t.R ht.3 _ (hT.bel H.bel)) ?_);rintro e w4 ⟨rfl,k4⟩;replace H:=H.call k4;refine⟨_,rfl,hK _ _ (λ_ _=>Its.cons H.o0 (Its.nil _)) ?_⟩;clear hK K;refine bS rfl rfl (λ_ _ _ h=>h) Yw (λw=>bW _ _ rfl Qv Qv (by simp only[List.length_append,List.length_cons,List.length_nil];omega) w) ?_;refine bS rfl rfl (λ_ _ _ h=>h) Yw (λw=>bW (b:=[32]) _ _ rfl Qv rfl (by simp only[List.length_append,List.length_cons,List.length_nil];omega) w) ?_;refine bR rfl rfl Yw (λK hK=>aX _ _ _ _ rfl Qv (EntK.out _ _) (fK t.G ht.4 _ (hT.bel H.bel)) ?_);rintro e w5 ⟨rfl,k5⟩;replace H:=H.call k5;refine⟨_,rfl,hK _ _ (λ_ _=>Its.cons H.o0 (Its.nil _)) ?_⟩;clear hK K;refine bS rfl rfl (λ_ _ _ h=>h) Yw (λw=>bW _ _ rfl Qv Qv (by simp only[List.length_append,List.length_cons,List.length_nil];omega) w) ?_;refine bS rfl rfl (λ_ _ _ h=>h) Yw (λw=>bW (b:=[10]) _ _ rfl Qv rfl (by simp only[List.length_append,List.length_cons,List.length_nil];omega) w) ?_;refine qj ?_;refine fI<|aD<|qa ?_;refine kX (uI t _ ht) ?_;rintro e w6 ⟨D,rfl,hD,G⟩;refine⟨_,rfl,?_⟩;have hsz:=H.size;replace H:=pI (H.plus G) hsz;refine kR H ?_;clear H;intro w7 H z7;refine jB H.a0 bX (nX _ _) ?_;clear H;intro w8 H z8;refine aC<|aD<|qa ?_;refine aC<|zI (SpT t w R) ?_ (λC W3 hI=>?_)
 .obtain⟨M,eM⟩:∃M,M=xM (λ_ _=>0) R:=⟨_,rfl⟩;have hM:zB M:=by rw[eM];exact QB R _ hRl
  have hMl:M.length=R.length:=by rw[eM];exact uS _ _
  have hMx:∀c,c∈M->IpOK c.x:=λc hc=>by
   obtain⟨i,hi⟩:=List.mem_iff_getElem?.1 hc;have hil:=(List.getElem?_eq_some_iff.1 hi).1;rw[eM] at hi;obtain⟨g,h1,_,h3⟩:=EB R (λ_ _=>0) (λ_ _=>R64_nought) hRR i R[i] (List.getElem?_eq_getElem Yo);rw[hi] at h1
   cases h1
   exact⟨h3,neg1_R,λ_ h=>nomatch h⟩
  obtain⟨cb,ecb⟩:∃cb,cb=w6.heap.size:=⟨_,rfl⟩;rw[<-ecb] at H;have H0:Cx w w8 [bE 46 cb 297 297 (jU 0 D),lN w.heap.size D,fF w.heap.size 57 14 (.slice none 0 0) 0 []]:=
   (H.add (Below.refl _ _) (fF w.heap.size 57 14 (.slice none 0 0) 0 []) (World.ownsRow_nil _ _ _ _) (λ_ e=>nomatch e)).b2.sub (.cons_cons _ (.cons_cons _ (.cons_cons _ (List.nil_sublist _))))
  clear H;refine aD<|qa ?_;refine aC<|aM ?_;refine cO (λr A W=>∃(k:Nat) (D:Nat->Nd×Ad) (v7:Value),k<=R.length/\R.length-k<=r/\A.tmps.size=198/\A.defers=[]/\A.eval (.tmp 1)=.slice mo R.length mc/\A.eval (.tmp 5)=tV (uB t R k)/\A.eval (.tmp 6)=.pointer (some ⟨cb,0,none⟩)/\A.eval (.tmp 7)=v7/\A.eval (.tmp 8)=.int .i64 (k:Nat)/\(∀i,i<4->(D i).1=(cK t M k).nd i)/\Cx w W [bE 46 cb 297 297 (jU (k:Nat) D),lN w.heap.size D,fF w.heap.size 57 14 v7 (nR t M k).length (kG gH 14 (nR t M k))]) R.length
   ⟨0,D,.slice none 0 0,Xz _,Yo,YA,YB,Qv,Eq.trans Qv (by unfold uB wI;simp only[List.take_zero,List.flatMap_nil,List.append_assoc,List.cons_append,List.nil_append,List.append_nil]),by rw[ecb];exact Qv,Qv,Qv,hD,H0⟩ (λr B W hI=>?_)
  clear b1 b2 hs hd H0 hD G D;obtain⟨k,D,v7,hk,hkr,hs,hd,b1,b5,b6,b7,b8,hD,H⟩:=hI;have lk:=aFo ht hRR k Yo;refine aH<|aD (aG ?_);iterate 4 refine qa ?_
  refine aC<|iB (λhc=>?_) (λhc=>?_)
  .have hin:k<R.length:=by have:=Xu hc;omega
   obtain⟨r0,er0⟩:∃r0,r0=R[k]:=⟨_,rfl⟩;have hk?:R[k]?=some r0:=by rw[List.getElem?_eq_getElem hin,er0]
   obtain⟨c,hcL,ecr⟩:=hget k r0 hk?;have hr0:∀j a,R64 (r0 j a):=hRR r0 (List.mem_of_getElem? hk?);obtain⟨g,hg1,hg2,hg3⟩:=EB R (λ_ _=>0) (λ_ _=>R64_nought) hRR k r0 hk?;rw[<-eM] at hg1;obtain⟨o1,o2,o3⟩:=zH (t:=t) hM k Yo;have hE:=o3 _ hg1;have hkL:=(List.getElem?_eq_some_iff.1 hcL).1;obtain⟨pb,po,rfl,hcell⟩:=hr Yo;have hcell:=hcell k c hcL;refine aS<|aH (aM ?_);refine zI (λA W=>A.tmps.size=198/\A.defers=[]/\A.eval (.tmp 1)=.slice (some ⟨pb,po,none⟩) R.length mc/\A.eval (.tmp 5)=tV (uB t R k++uA r0 4)/\A.eval (.tmp 6)=.pointer (some ⟨cb,0,none⟩)/\A.eval (.tmp 7)=v7/\A.eval (.tmp 8)=.int .i64 (k:Nat)/\Cx w W [bE 46 cb 297 297 (jU (k:Nat) D),lN w.heap.size D,fF w.heap.size 57 14 v7 (nR t M k).length (kG gH 14 (nR t M k))]) ?_ (λC W2 hI=>?_)
   .refine aD<|qa ?_;refine aC<|aM ?_;refine cO (λr A W=>∃j:Nat,j<=4/\4-j<=r/\A.tmps.size=198/\A.defers=[]/\A.eval (.tmp 1)=.slice (some ⟨pb,po,none⟩) R.length mc/\A.eval (.tmp 5)=tV (uB t R k++uA r0 j)/\A.eval (.tmp 6)=.pointer (some ⟨cb,0,none⟩)/\A.eval (.tmp 7)=v7/\A.eval (.tmp 8)=.int .i64 (k:Nat)/\A.eval (.tmp 9)=.int .i64 (j:Nat)/\Cx w W [bE 46 cb 297 297 (jU (k:Nat) D),lN w.heap.size D,fF w.heap.size 57 14 v7 (nR t M k).length (kG gH 14 (nR t M k))]) 4
     ⟨0,Yo,Yo,YA,YB,Qv,Eq.trans Qv (by rw[show uA r0 0=[] from rfl,List.append_nil]),Qv,Qv,Qv,Qv,H⟩ (λr B W hI=>?_)
    clear b1 b5 b6 b7 b8 hs hd H;obtain⟨j,hj,hjr,hs,hd,b1,b5,b6,b7,b8,b9,H⟩:=hI;have lj:=zV hr0 j;refine aH<|aD (aG ?_);iterate 2 refine qa ?_
    refine aC<|iB (λhc=>?_) (λhc=>?_)
    .have hj4:j<4:=by have:=Xu hc;omega
     have lr:=PK (k:=j) (hr0 j);refine aS<|aH (aM ?_);refine aJ ?_;iterate 5 refine qa ?_
     refine qg (eB (i:=k) _ _ _ _ rfl SlcK.out SizK.out Qv Qv rfl hin _) ?_;refine qa ?_;refine qg (bQ (i:=j) _ _ _ _ rfl ArrK.out SizK.out Qv Qv rfl hj4 _) ?_;refine qg (qE (g:=iF (r0 j)) ManyK.out (λq hq=>by
      have:=aU (hcell (j*3+q) Yo) H.bel;rw[aHD hj4 hq,ecr] at this;rw[show po+k*14+0+j*3+q=po+k*14+(j*3+q) by omega];exact this) rfl Qv) ?_
     refine gX (TB j hj4 (r0 j) (hr0 j) _ (hT.bel H.bel)) ?_;rintro e w9 ⟨rfl,k9⟩;replace H:=H.call k9;refine⟨_,rfl,?_⟩;refine qg (bW _ _ rfl Qv Qv (by rw[List.length_append];omega) _) ?_;refine qa ?_;refine fG<|aJ ?_;repeat refine qa ?_
     exact bD ⟨4-(j+1),Yo,j+1,Yo,Yo,YA,YB,Qv,Eq.trans Qv (by rw[show uA r0 (j+1)=uA r0 j++(kY j (r0 j)++[10]) from rfl];simp only[List.append_assoc]),Qv,Qv,Qv,Eq.trans Qv YC,H⟩
    .obtain rfl:j=4:=by have:=Xg hc;omega
     exact bY (FE ⟨rfl,YA,YB,Qv,Qv,Qv,Qv,Qv,H⟩)
   clear b1 b5 b6 b7 b8 hs hd H;obtain⟨hs,hd,b1,b5,b6,b7,b8,H⟩:=hI;have l4:=zV hr0 4;refine aD (aG ?_);refine qa ?_;refine qg (bW (b:=P5++[10]) _ _ rfl Qv rfl (by rw[List.length_append];show _+6<=_;omega) _) ?_;refine qa ?_;refine aC ?_;have hag:∀i,i<4->xU W2.drew (D i).1 (D i).2.1 (D i).2.2:=λi hi=>by
    have ho:World.ownsRow _ _ _ _ _ _ _:=H.drew.o1 i hi;obtain⟨a3,c3,e,hs3,_⟩:=kK ho
    cases e
    exact hs3
   replace H:=H.drew;have hip:IpOK ⟨g, -1,[]⟩:=⟨hg3,neg1_R,λ_ h=>nomatch h⟩;have hcls:lT ⟨((k:Nat):Int),λi=>(D i).1⟩:=by
    have:=CK (L:=M) ht hMx k;exact⟨by have:=this.1;rw[o1] at this;exact this,λi hi=>by show NdOK (D i).1;rw[hD i hi];exact this.2 i hi⟩
   obtain⟨p1,p2,p3,p4⟩:=N9 (x:=⟨g, -1,[]⟩) o1 hD;have hE:bU ⟨g, -1,[]⟩ (cK t M k)=0:=hE;have eC:cK t M (k+1)=frC ⟨g, -1,[]⟩ (cK t M k):=yH hg1;have eO:nR t M (k+1)=nR t M k++frR ⟨g, -1,[]⟩ (cK t M k):=BJ hg1;have eF:(frC ⟨g, -1,[]⟩ ⟨((k:Nat):Int),λi=>(D i).1⟩).fr=((k+1:Nat):Int):=by
    rw[p2, <-eC];exact (zH hM (k+1) Yo).1
   obtain⟨rs,ers⟩:∃rs,rs=frR ⟨g, -1,[]⟩ (cK t M k):=⟨_,rfl⟩;rw[<-ers] at p4 eO;have hrl:rs.length<=4:=by rw[ers];exact U5 _ _
   have hcW:∀j,j<14->W2.drew.cell? ⟨pb,po+k*14+j,none⟩=some (tQ c j):=λj hj=>aU (hcell j hj) H.bel
   have hS:(λW'=>Its [bE 46 cb 297 297 (jU (k:Nat) D)] W'/\∀j,j<14->W'.cell? ⟨pb,po+k*14+j,none⟩=some (tQ c j)) W2.drew:=⟨Its.cons H.o0 (Its.nil _),hcW⟩;refine aH<|eU (S:=λW'=>Its [bE 46 cb 297 297 (jU (k:Nat) D)] W'/\∀j,j<14->W'.cell? ⟨pb,po+k*14+j,none⟩=some (tQ c j)) (.rd 0 (.mv 1 (.mv 2 (.mv 3 (.mv 4 (.rd 5 (.mv 6 (.two 7 12 (.mv 8 (.mv 9 (.mv 10 (.mv 11 (.go 12 (.go 13 (.mv 14 (.mv 15 .fin)))))))) (.go 7 (.mv 8 (.mv 9 (.mv 10 (.mv 11 (.go 13 (.mv 14 (.mv 15 .fin)))))))))))))))) [13] Yl Yl ?_;refine WL rfl rfl (λ_ _ _ h=>mU h) Yw hS (λ_ H=>aV _ _ rfl ManyK.out Qv H.1.v0 Yo) ?_;iterate 2 refine qj (hQ:=λ_ _ _ h=>mU h) ?_
   refine bS rfl rfl (λ_ _ _ h=>mU h) Yw (λw=>eB (i:=k) _ _ _ _ rfl SlcK.out SizK.out Qv Qv rfl hin w) ?_;refine qj (hQ:=λ_ _ _ h=>mU h) ?_;refine WL rfl rfl (λ_ _ _ h=>mU h) Yw hS (λ_ H=>qE (g:=qU g) ManyK.out (λj hj=>by
    rw[<-aKS (c:=c) (g:=g) (λj q hj hq=>by rw[hg2 j q hj hq,ecr]) hj];exact H.2 j Yo) rfl Qv) ?_
   refine bS rfl rfl (λ_ _ _ h=>mU h) Yw (λw=>XG rfl Qv w) ?_;refine aCa (r:=.go 13 (.mv 14 (.mv 15 .fin))) (λA W'=>∃(qb:Nat) (D':Nat->Nd×Ad) (vr:Value),A.tmps.size=198/\A.defers=[]/\A.eval (.tmp 1)=.slice (some ⟨pb,po,none⟩) R.length mc/\A.eval (.tmp 5)=tV (uB t R (k+1))/\A.eval (.tmp 6)=.pointer (some ⟨cb,0,none⟩)/\A.eval (.tmp 7)=v7/\A.eval (.tmp 8)=.int .i64 (k:Nat)/\A.eval (.tmp 10)=.pointer (some ⟨qb,0,none⟩)/\A.eval (.tmp 78)=aP (jU ((k+1:Nat):Int) D') 0 297/\A.eval (.tmp 79)=vr/\A.eval (.tmp 80)=.int .i64 0/\(∀i,i<4->(D' i).1=(cK t M (k+1)).nd i)/\Cx w W' [bE 46 qb 297 297 (pR 0 (λ_=>dW) (λ_=>gN (none,0) 0)),fF w.heap.size 57 14 vr rs.length (kG gH 14 rs),lN w.heap.size D',bE 46 cb 297 297 (jU (k:Nat) D),lN w.heap.size D,fF w.heap.size 57 14 v7 (nR t M k).length (kG gH 14 (nR t M k))]) (λA W' hT'=>?_) (λhcut=>?_)
   .clear b1 b5 b6 b7 b8 hs hd H hS hag hcW;obtain⟨qb,D',vr,hs,hd,b1,b5,b6,b7,b8,b10,b78,b79,b80,hD',H⟩:=hT';have hol:=IC t M k;refine GJ ?_;refine dS rfl Yw (λK hK=>aW _ _ _ _ rfl ManyK.out Qv Qv H.v0 Yo (nX _ _) rfl (λw10 m10 k10 z10=>hK _ (λh=>absurd h Yc) ?_));replace H:=H.a0.s k10 (m10.congr bX);iterate 2 refine qj (hQ:=λ_ _ _ h=>mU h) ?_
    refine fI<|aH<|aD<|qa ?_;refine qg (nQ (b:=false) _ _ rfl Qv Qv rfl _) ?_;refine aC<|aQ Qv ?_;refine aS<|aD<|qa ?_;refine jB H.a3 bX (nX _ _) ?_;clear H;intro w11 H z11;refine aC<|aJ ?_;iterate 2 refine qa ?_
    refine aEm (bytes:=80) H.a5 (X3 (show World.ownsRow _ _ _ _ _ _ _ from H.o1)) (IA (λx _=>mE _ _)) Ym Yo ?_;clear H;intro v12 w12 H;refine qa ?_;refine fG<|aJ ?_;repeat refine qa ?_
    refine bD ⟨R.length-(k+1),Yo,k+1,D',v12,Yo,Yo,YA,YB,Qv,Qv,Qv,Qv,Eq.trans Qv YC,hD',?_⟩;rw[eO,List.length_append,GY];exact (H.f3.f3.b1).sub (.cons_cons _ (.cons_cons _ (.cons _ (.cons _ (.cons _ (.cons_cons _ (List.nil_sublist _)))))))
   .refine LM ?_ ?_
    .refine bR rfl rfl Yw (λK hK=>?_);have hsz:=H.size;refine dL _ 10 _ _ _ rfl Qv Qv (EntK.out _ _) (vH ⟨g, -1,[]⟩ (k:Nat) D none 0 [] _ rfl hip hcls hag (TL _)) ?_;rintro e w5 ⟨D',vr,rfl,hD',G⟩;rw[p4] at G;replace H:=H.plus G;refine⟨_,rfl,hK _ _ (λ_ h=>⟨Its.cons H.o2 (Its.nil _),λj hj=>aU (h.2 j hj) G.bel⟩) ?_⟩;clear hK K;refine qj (hQ:=λ_ _ _ h=>mU h) ?_;refine bS rfl rfl (λ_ _ _ h=>mU h) Yw (λw=>jZ _ rfl Qv w) ?_;refine bS rfl rfl (λ_ _ _ h=>mU h) Yw (λw=>kE _ rfl Qv w) ?_;refine bS rfl rfl (λ_ _ _ h=>mU h) Yw (λw=>kF _ rfl Qv w) ?_;refine bR rfl rfl Yw (λK hK=>?_);refine gQ _ _ rfl ZerK.out Yd ?_;intro w6 m6 k6 z6;replace H:=H.add k6 (bE _ _ _ _ _) m6 (λj e=>Nat.le_of_eq e.symm);refine hK _ _ (λ_ h=>⟨Its.cons H.o3 (Its.nil _),λj hj=>aU (h.2 j hj) k6⟩) ?_;clear hK K;refine hcut _ _ ⟨_,D',vr,YA,YB,Qv,Eq.trans Qv (by rw[JW hk?,List.append_assoc]),Qv,Qv,Qv,Qv,Eq.trans Qv (by rw[eF]),Qv,Eq.trans Qv (by rw[p1,hE]),λi hi=>(hD' i hi).trans ((p3 i hi).trans (by rw[eC])),?_⟩;exact (pI (xI H.f1 hsz).f2 hsz).b2.b1
    .refine bR rfl rfl Yw (λK hK=>?_);refine gQ _ _ rfl ZerK.out Yd ?_;intro w6 m6 k6 z6;replace H:=H.add k6 (bE _ _ _ _ _) m6 (λj e=>Nat.le_of_eq e.symm);refine hK _ _ (λ_ h=>⟨Its.cons H.o1 (Its.nil _),λj hj=>aU (h.2 j hj) k6⟩) ?_;clear hK K;refine bR rfl rfl Yw (λK hK=>?_);have hsz:=H.size;refine dL _ 10 _ _ _ rfl Qv Qv (EntK.out _ _) (vH ⟨g, -1,[]⟩ (k:Nat) D none 0 [] _ rfl hip hcls (λi hi=>(hag i hi).below k6) (TL _)) ?_;rintro e w5 ⟨D',vr,rfl,hD',G⟩;rw[p4] at G;replace H:=H.plus G;refine⟨_,rfl,hK _ _ (λ_ h=>⟨Its.cons H.o3 (Its.nil _),λj hj=>aU (h.2 j hj) G.bel⟩) ?_⟩;clear hK K;refine qj (hQ:=λ_ _ _ h=>mU h) ?_;refine bS rfl rfl (λ_ _ _ h=>mU h) Yw (λw=>jZ _ rfl Qv w) ?_;refine bS rfl rfl (λ_ _ _ h=>mU h) Yw (λw=>kE _ rfl Qv w) ?_;refine bS rfl rfl (λ_ _ _ h=>mU h) Yw (λw=>kF _ rfl Qv w) ?_;refine hcut _ _ ⟨_,D',vr,YA,YB,Qv,Eq.trans Qv (by rw[JW hk?,List.append_assoc]),Qv,Qv,Qv,Qv,Eq.trans Qv (by rw[eF]),Qv,Eq.trans Qv (by rw[p1,hE]),λi hi=>(hD' i hi).trans ((p3 i hi).trans (by rw[eC])),?_⟩;exact ((pI (xI H hsz).f1 hsz).f1).f2
  .obtain rfl:k=R.length:=by have:=Xg hc;omega
   refine bY (FE ⟨rfl,v7,YA,YB,Eq.trans Qv (by rw[aFn]),Qv,?_⟩);rw[<-eM];exact H.tl.tl
 .clear hS H hD G D hsz z8 z7 b1 b2 hs hd;obtain⟨M,eM⟩:∃M,M=xM (λ_ _=>0) R:=⟨_,rfl⟩;have hM:zB M:=by rw[eM];exact QB R _ hRl
  have hM1:LX (-1) M:=by rw[eM];exact aIW R _
  have hMl:M.length=R.length:=by rw[eM];exact uS _ _
  have hMx:∀c,c∈M->IpOK c.x:=λc hc=>by
   obtain⟨i,hi⟩:=List.mem_iff_getElem?.1 hc;have hil:=(List.getElem?_eq_some_iff.1 hi).1;rw[eM] at hi;obtain⟨g,h1,_,h3⟩:=EB R (λ_ _=>0) (λ_ _=>R64_nought) hRR i R[i] (List.getElem?_eq_getElem Yo);rw[hi] at h1
   cases h1
   exact⟨h3,neg1_R,λ_ h=>nomatch h⟩
  obtain⟨v7,hs,hd,b5,b7,H⟩:=hI;obtain⟨y1,y2⟩:=aFr ht hRl hRR;rw[<-eM] at H y2;obtain⟨rs,ers⟩:∃rs,rs=nR t M R.length:=⟨_,rfl⟩;have hrn:=VE hM hM1 ht hMx R.length Yo;have hrl:=IC t M R.length;rw[<-ers] at H y2 hrn hrl;obtain⟨ra,rc,rfl,hrc⟩:=dY (show World.ownsRow _ _ _ _ _ _ _ from H.o0);obtain⟨got,egot⟩:∃got,got=rs.flatMap rpT:=⟨_,rfl⟩;have hgl:got.length<=600*rs.length:=by rw[egot];exact wZ (λn hn=>(hrn n hn).1)
  rw[<-egot] at y2;refine aD (aG ?_);refine qa ?_;refine kX (SY (A9 t R) mx _ (aU hm H.bel) (hT.bel H.bel)) ?_;rintro e w10 ⟨rfl,k10⟩;replace H:=H.call k10;refine⟨.tuple #[tV got,.int .i64 0],by rw[y1,y2],?_⟩;iterate 5 refine qa ?_
  refine aC<|aH<|aD<|aLy (YS _) ?_;rintro e w11 ⟨rfl,k11⟩;replace H:=H.call k11;refine⟨_,rfl,?_⟩;iterate 3 refine qa ?_
  refine qg (nQ (b:=false) _ _ rfl Qv Qv rfl _) ?_;refine qg (aZ _ _ _ rfl Qv Qv _) ?_;refine aC<|aQ Qv ?_;refine aS<|aD<|qa ?_;refine aC<|aH<|aD ?_;iterate 3 refine qa ?_
  refine aC<|aM ?_;refine cO (λr A W=>∃(k:Nat),k<=rs.length/\rs.length-k<=r/\A.tmps.size=198/\A.defers=[]/\A.eval (.tmp 7)=.slice ra rs.length rc/\A.eval (.tmp 13)=tV got/\A.eval (.tmp 15)=.int .i64 (((rs.take k).flatMap rpT).length:Nat)/\A.eval (.tmp 98)=.slice ra rs.length rc/\A.eval (.tmp 99)=.int .i64 (rs.length:Nat)/\A.eval (.tmp 100)=.int .i64 (k:Nat)/\Cx w W [fF w.heap.size 57 14 (.slice ra rs.length rc) rs.length (kG gH 14 rs)]) rs.length
   ⟨0,Xz _,Yo,YA,YB,Qv,Qv,Qv,Qv,Qv,Qv,H⟩ (λr B W hI=>?_)
  clear b5 b7 hs hd H;obtain⟨k,hk,hkr,hs,hd,b7,b13,b15,b98,b99,b100,H⟩:=hI;refine aD (aG ?_);refine qa ?_;refine aC<|aH<|iB (λhc=>?_) (λhc=>?_)
  .have hin:k<rs.length:=by have:=Xu hc;omega
   obtain⟨n,en⟩:∃n,n=rs[k]:=⟨_,rfl⟩;have hk?:rs[k]?=some n:=by rw[List.getElem?_eq_getElem hin,en]
   obtain⟨hn,⟨i,hi,ei⟩,⟨q,hq,eq⟩⟩:=hrn n (List.mem_of_getElem? hk?);obtain⟨rb,ro,rfl,hcell⟩:=(GV (F:=gH) (s:=14) H.o0 Yc:RdS gH 14 W ra rs) Yo;have hcell:=hcell k n hk?;obtain⟨p,ep⟩:∃p,p=(rs.take k).flatMap rpT:=⟨_,rfl⟩;obtain⟨z,ez⟩:∃z,z=(rs.drop (k+1)).flatMap rpT:=⟨_,rfl⟩;obtain⟨bd,ebd⟩:∃bd,bd=DY n++PO n:=⟨_,rfl⟩;have hpb:=aLE n;rw[<-ebd] at hpb;have egp:got=p++(bd++[10]++z):=by
    rw[egot,ep,ez,ebd, <-JR,en]
    conv=>lhs;rw[<-List.take_append_drop k rs,List.flatMap_append,List.drop_eq_getElem_cons hin,List.flatMap_cons]
   have egh:got=p++(DY n++(PO n++([10]++z))):=by rw[egp,ebd];simp only[List.append_assoc]
   have epn:(rs.take (k+1)).flatMap rpT=p++(bd++[10]):=by
    rw[<-List.take_append_getElem hin,List.flatMap_append,List.flatMap_cons,List.flatMap_nil,List.append_nil, <-en,ep,ebd,JR]
   rw[<-ep] at b15;have gl:=congrArg List.length egp;have gl2:=congrArg List.length egh;simp only[List.length_append,List.length_cons,List.length_nil] at gl gl2;have u0:=dI (hn.us 0);have u1:=dI (hn.us 1);have u2:=dI (hn.us 2);have x0:=dI (hn.ax 0).X;have x1:=dI (hn.ax 1).X;have x2:=dI (hn.ax 2).X;have iq:=nL (n:=(q:Nat)) (by unfold R64;omega);refine aS<|aH (aM ?_);refine aD<|qg (eB (i:=k) _ _ _ _ rfl SlcK.out SizK.out Qv Qv rfl hin _) ?_;refine qg (qE (g:=gH n) ManyK.out hcell rfl Qv) ?_;refine kR H ?_;obtain⟨qb,eqb⟩:∃qb,qb=W.heap.size:=⟨_,rfl⟩;rw[<-eqb];clear H;intro w12 H z12;refine jB H.a0 (g':=gH n) bX (mE _ _) ?_;clear H;intro w13 H z13;refine aC ?_;replace H:=H.drew;have hS:Its [bE 57 qb 14 14 (gH n)] w13.drew:=Its.cons H.o0 (Its.nil _);refine aH<|eU (S:=Its [bE 57 qb 14 14 (gH n)]) (.mv 0 (.rd 1 (.mv 2 (.mv 3 (.mv 4 (.mv 5 (.mv 6 (.mv 7 (.rd 8 (.mv 12 (.mv 13 (.rd 14 (.mv 18 (.mv 19 (.rd 20 (.mv 24 (.mv 25 (.rd 26 (.mv 30 (.mv 31 (.rd 32 (.mv 36 (.mv 37 (.rd 38 (.mv 42 (.mv 43 (.rd 44 (.go 9 (.mv 10 (.mv 11 (.go 15 (.mv 16 (.mv 17 (.go 21 (.mv 22 (.mv 23 (.go 27 (.mv 28 (.mv 29 (.go 33 (.mv 34 (.mv 35 (.go 39 (.mv 40 (.mv 41 (.go 45 (.mv 46 (.mv 47 (.mv 48 .fin))))))))))))))))))))))))))))))))))))))))))))))))) [] Yl Yl ?_;refine qj ?_;refine Yr rfl hS (λ_ H=>aR (v:=.int .i64 ((i:Nat))) _ _ rfl OneK.out Qv H.v0 Yo (by rw[<-ei];rfl)) ?_;refine bS rfl rfl (λ_ _ _ h=>h) Yw (λw=>(jO _ _ rfl Qv Qv Yo Yo w).trans (by rw[show (48:Int)+((i:Nat):Int)=((48+i:Nat):Int) by omega])) ?_;refine bS rfl rfl (λ_ _ _ h=>h) Yw (λw=>yU (k:=48+i) _ rfl Yo Qv w) ?_;refine bS rfl rfl (λ_ _ _ h=>h) Yw (λw=>wE (k:=i) _ rfl Yo Qv w) ?_;refine bS rfl rfl (λ_ _ _ h=>h) Yw (λw=>bW (a:=[110,111,100,101,32]) _ _ rfl rfl Qv (by simp only[List.length_cons,List.length_nil];omega) w) ?_;refine bS rfl rfl (λ_ _ _ h=>h) Yw (λw=>bW (b:=[32,102,114,97,109,101,32]) _ _ rfl Qv rfl (by simp only[List.length_append,List.length_cons,List.length_nil];omega) w) ?_;refine qj ?_;refine Yr rfl hS (λ_ H=>aR (v:=.int .i64 ((q:Nat))) _ _ rfl OneK.out Qv H.v0 Yo (by rw[<-eq];rfl)) ?_;refine qj ?_;refine bS rfl rfl (λ_ _ _ h=>h) Yw (λw=>bQ (i:=0) _ _ _ _ rfl ArrK.out SizK.out Qv Qv rfl Yo w) ?_;refine Yr rfl hS (λ_ H=>aR (v:=.int .i64 (n.us 0)) _ _ rfl OneK.out Qv H.v0 Yo rfl) ?_;refine qj ?_;refine bS rfl rfl (λ_ _ _ h=>h) Yw (λw=>bQ (i:=0) _ _ _ _ rfl ArrK.out SizK.out Qv Qv rfl Yo w) ?_;refine Yr rfl hS (λ_ H=>aR (v:=.int .i64 ((n.ax 0).X)) _ _ rfl OneK.out Qv H.v0 Yo rfl) ?_;refine qj ?_;refine bS rfl rfl (λ_ _ _ h=>h) Yw (λw=>bQ (i:=1) _ _ _ _ rfl ArrK.out SizK.out Qv Qv rfl Yo w) ?_;refine Yr rfl hS (λ_ H=>aR (v:=.int .i64 (n.us 1)) _ _ rfl OneK.out Qv H.v0 Yo rfl) ?_;refine qj ?_;refine bS rfl rfl (λ_ _ _ h=>h) Yw (λw=>bQ (i:=1) _ _ _ _ rfl ArrK.out SizK.out Qv Qv rfl Yo w) ?_;refine Yr rfl hS (λ_ H=>aR (v:=.int .i64 ((n.ax 1).X)) _ _ rfl OneK.out Qv H.v0 Yo rfl) ?_;refine qj ?_;refine bS rfl rfl (λ_ _ _ h=>h) Yw (λw=>bQ (i:=2) _ _ _ _ rfl ArrK.out SizK.out Qv Qv rfl Yo w) ?_;refine Yr rfl hS (λ_ H=>aR (v:=.int .i64 (n.us 2)) _ _ rfl OneK.out Qv H.v0 Yo rfl) ?_;refine qj ?_;refine bS rfl rfl (λ_ _ _ h=>h) Yw (λw=>bQ (i:=2) _ _ _ _ rfl ArrK.out SizK.out Qv Qv rfl Yo w) ?_;refine Yr rfl hS (λ_ H=>aR (v:=.int .i64 ((n.ax 2).X)) _ _ rfl OneK.out Qv H.v0 Yo rfl) ?_;refine bR rfl rfl Yw (λK hK=>aX _ _ _ _ rfl Qv (EntK.out _ _) (XP q Yo _) ?_);rintro e w20 ⟨rfl,k20⟩;replace H:=H.call k20;refine⟨_,rfl,hK _ _ (λ_ _=>Its.cons H.o0 (Its.nil _)) ?_⟩;clear hK K;refine bS rfl rfl (λ_ _ _ h=>h) Yw (λw=>bW _ _ rfl Qv Qv (by simp only[List.length_append,List.length_cons,List.length_nil];omega) w) ?_;refine bS rfl rfl (λ_ _ _ h=>h) Yw (λw=>bW (b:=[32]) _ _ rfl Qv rfl (by simp only[List.length_append,List.length_cons,List.length_nil];omega) w) ?_;refine bR rfl rfl Yw (λK hK=>aX _ _ _ _ rfl Qv (EntK.out _ _) (fK (n.us 0) (hn.us 0) _ (hT.bel H.bel)) ?_);rintro e w21 ⟨rfl,k21⟩;replace H:=H.call k21;refine⟨_,rfl,hK _ _ (λ_ _=>Its.cons H.o0 (Its.nil _)) ?_⟩;clear hK K;refine bS rfl rfl (λ_ _ _ h=>h) Yw (λw=>bW _ _ rfl Qv Qv (by simp only[List.length_append,List.length_cons,List.length_nil];omega) w) ?_;refine bS rfl rfl (λ_ _ _ h=>h) Yw (λw=>bW (b:=[62]) _ _ rfl Qv rfl (by simp only[List.length_append,List.length_cons,List.length_nil];omega) w) ?_;refine bR rfl rfl Yw (λK hK=>aX _ _ _ _ rfl Qv (EntK.out _ _) (fK (n.ax 0).X (hn.ax 0).X _ (hT.bel H.bel)) ?_);rintro e w22 ⟨rfl,k22⟩;replace H:=H.call k22;refine⟨_,rfl,hK _ _ (λ_ _=>Its.cons H.o0 (Its.nil _)) ?_⟩;clear hK K;refine bS rfl rfl (λ_ _ _ h=>h) Yw (λw=>bW _ _ rfl Qv Qv (by simp only[List.length_append,List.length_cons,List.length_nil];omega) w) ?_;refine bS rfl rfl (λ_ _ _ h=>h) Yw (λw=>bW (b:=[32]) _ _ rfl Qv rfl (by simp only[List.length_append,List.length_cons,List.length_nil];omega) w) ?_;refine bR rfl rfl Yw (λK hK=>aX _ _ _ _ rfl Qv (EntK.out _ _) (fK (n.us 1) (hn.us 1) _ (hT.bel H.bel)) ?_);rintro e w23 ⟨rfl,k23⟩;replace H:=H.call k23;refine⟨_,rfl,hK _ _ (λ_ _=>Its.cons H.o0 (Its.nil _)) ?_⟩;clear hK K;refine bS rfl rfl (λ_ _ _ h=>h) Yw (λw=>bW _ _ rfl Qv Qv (by simp only[List.length_append,List.length_cons,List.length_nil];omega) w) ?_;refine bS rfl rfl (λ_ _ _ h=>h) Yw (λw=>bW (b:=[62]) _ _ rfl Qv rfl (by simp only[List.length_append,List.length_cons,List.length_nil];omega) w) ?_;refine bR rfl rfl Yw (λK hK=>aX _ _ _ _ rfl Qv (EntK.out _ _) (fK (n.ax 1).X (hn.ax 1).X _ (hT.bel H.bel)) ?_);rintro e w24 ⟨rfl,k24⟩;replace H:=H.call k24;refine⟨_,rfl,hK _ _ (λ_ _=>Its.cons H.o0 (Its.nil _)) ?_⟩;clear hK K;refine bS rfl rfl (λ_ _ _ h=>h) Yw (λw=>bW _ _ rfl Qv Qv (by simp only[List.length_append,List.length_cons,List.length_nil];omega) w) ?_;refine bS rfl rfl (λ_ _ _ h=>h) Yw (λw=>bW (b:=[32]) _ _ rfl Qv rfl (by simp only[List.length_append,List.length_cons,List.length_nil];omega) w) ?_;refine bR rfl rfl Yw (λK hK=>aX _ _ _ _ rfl Qv (EntK.out _ _) (fK (n.us 2) (hn.us 2) _ (hT.bel H.bel)) ?_);rintro e w25 ⟨rfl,k25⟩;replace H:=H.call k25;refine⟨_,rfl,hK _ _ (λ_ _=>Its.cons H.o0 (Its.nil _)) ?_⟩;clear hK K;refine bS rfl rfl (λ_ _ _ h=>h) Yw (λw=>bW _ _ rfl Qv Qv (by simp only[List.length_append,List.length_cons,List.length_nil];omega) w) ?_;refine bS rfl rfl (λ_ _ _ h=>h) Yw (λw=>bW (b:=[62]) _ _ rfl Qv rfl (by simp only[List.length_append,List.length_cons,List.length_nil];omega) w) ?_;refine bR rfl rfl Yw (λK hK=>aX _ _ _ _ rfl Qv (EntK.out _ _) (fK (n.ax 2).X (hn.ax 2).X _ (hT.bel H.bel)) ?_);rintro e w26 ⟨rfl,k26⟩;replace H:=H.call k26;refine⟨_,rfl,hK _ _ (λ_ _=>Its.cons H.o0 (Its.nil _)) ?_⟩;clear hK K;refine bS rfl rfl (λ_ _ _ h=>h) Yw (λw=>bW _ _ rfl Qv Qv (by simp only[List.length_append,List.length_cons,List.length_nil];omega) w) ?_;refine bS rfl rfl (λ_ _ _ h=>h) Yw (λw=>bW (b:=[32]) _ _ rfl Qv rfl (by simp only[List.length_append,List.length_cons,List.length_nil];omega) w) ?_;refine qj ?_;refine fI ?_;refine aKd (λA W=>A.tmps.size=198/\A.defers=[]/\A.eval (.tmp 7)=.slice (some ⟨rb,ro,none⟩) rs.length rc/\A.eval (.tmp 13)=tV got/\A.eval (.tmp 15)=.int .i64 (p.length:Nat)/\A.eval (.tmp 18)=tV (DY n)/\A.eval (.tmp 98)=.slice (some ⟨rb,ro,none⟩) rs.length rc/\A.eval (.tmp 99)=.int .i64 (rs.length:Nat)/\A.eval (.tmp 100)=.int .i64 (k:Nat)/\Cx w W [fF w.heap.size 57 14 (.slice (some ⟨rb,ro,none⟩) rs.length rc) rs.length (kG gH 14 rs)])
    ⟨YA,YB,Qv,Qv,Qv,Eq.trans Qv (by
     unfold DY;rw[ei,eq,show itoa ((i:Nat):Int)=[UInt8.ofNat (48+i)] by rw[TZ Yo,if_pos Yo]];simp only[wQ,List.append_assoc,List.nil_append]),Qv,Qv,Qv,H.tl⟩ (λA3 W3 hI=>?_)
   clear b7 b13 b15 b98 b99 b100 hs hd H hS u0 u1 u2 x0 x1 x2 iq;obtain⟨hs,hd,b7,b13,b15,b18,b98,b99,b100,H⟩:=hI;refine aH<|aD (aG ?_);refine qa ?_;refine qg (wC _ rfl Qv _) ?_;iterate 2 refine qa ?_
   refine qg (wC _ rfl Qv _) ?_;refine qg (jO _ _ rfl Qv Qv Yo Yo _) ?_;refine qg (iC (b:=false) _ _ rfl Qv Qv (Xf Yo) _) ?_;iterate 5 refine qa ?_
   refine qg (wC _ rfl Qv _) ?_;refine qg (jO _ _ rfl Qv Qv Yo Yo _) ?_;refine qg (XN (p:=p) (m:=DY n) (q:=PO n++([10]++z)) _ _ _ rfl (by rw[<-egh];exact Qv) Qv Qv rfl Yo _) ?_;refine qa ?_;refine qg (aBK _ _ rfl Qv Qv rfl _) ?_;refine qg (aZ _ _ _ rfl Qv Qv _) ?_;refine aC<|aQ Qv ?_;refine aS<|zI (λA W=>A.tmps.size=198/\A.defers=[]/\A.eval (.tmp 7)=.slice (some ⟨rb,ro,none⟩) rs.length rc/\A.eval (.tmp 13)=tV got/\A.eval (.tmp 15)=.int .i64 (p.length+bd.length:Nat)/\A.eval (.tmp 98)=.slice (some ⟨rb,ro,none⟩) rs.length rc/\A.eval (.tmp 99)=.int .i64 (rs.length:Nat)/\A.eval (.tmp 100)=.int .i64 (k:Nat)/\Cx w W [fF w.heap.size 57 14 (.slice (some ⟨rb,ro,none⟩) rs.length rc) rs.length (kG gH 14 rs)]) ?_ (λC W4 hI=>?_)
   .refine aM ?_;refine cO (λr A W=>∃m:Nat,m<=bd.length/\bd.length-m<=r/\A.tmps.size=198/\A.defers=[]/\A.eval (.tmp 7)=.slice (some ⟨rb,ro,none⟩) rs.length rc/\A.eval (.tmp 13)=tV got/\A.eval (.tmp 15)=.int .i64 (p.length+m:Nat)/\A.eval (.tmp 98)=.slice (some ⟨rb,ro,none⟩) rs.length rc/\A.eval (.tmp 99)=.int .i64 (rs.length:Nat)/\A.eval (.tmp 100)=.int .i64 (k:Nat)/\Cx w W [fF w.heap.size 57 14 (.slice (some ⟨rb,ro,none⟩) rs.length rc) rs.length (kG gH 14 rs)]) bd.length
     ⟨0,Xz _,Yo,YA,YB,Qv,Qv,Qv,Qv,Qv,Qv,H⟩ (λr B W hI=>?_)
    clear b7 b13 b15 b18 b98 b99 b100 hs hd H;obtain⟨m,hm2,hmr,hs,hd,b7,b13,b15,b98,b99,b100,H⟩:=hI;have hpm:p.length+m<got.length:=Yo;refine aH<|aD (aG ?_);iterate 2 refine qa ?_
    refine qg (wC _ rfl Qv _) ?_;refine qg (iC (b:=true) _ _ rfl Qv Qv (Xt Yo) _) ?_;iterate 3 refine qa ?_
    refine qg (PU (l:=got) (k:=p.length+m) _ _ rfl Qv Qv rfl hpm _) ?_;by_cases hmb:m<bd.length
    .have e1:got[p.length+m]=bd[m]:=by
      have:got[p.length+m]?=bd[m]?:=by rw[egp,List.getElem?_append_right Yo,show p.length+m-p.length=m by omega,List.append_assoc,List.getElem?_append_left hmb]
      rw[List.getElem?_eq_getElem hpm,List.getElem?_eq_getElem hmb] at this;exact Option.some.inj this
     have e2:bd[m]≠10:=hpb _ (List.getElem_mem hmb);refine qg (JV (b:=true) _ _ rfl Qv Qv (Xt (λh=>e2 (by rw[<-e1];exact UInt8.toNat_inj.1 (by have h:((got[p.length+m].toNat:Nat):Int)=10:=h;show _=10;omega)))) _) ?_;refine qg (aO _ _ _ rfl Qv Qv _) ?_;refine aC<|aT Qv ?_;refine aS<|aM<|aJ ?_;iterate 3 refine qa ?_
     exact NZ ⟨bd.length-(m+1),Yo,m+1,Yo,Yo,YA,YB,Qv,Qv,Eq.trans Qv (by congr 1),Qv,Qv,Qv,H⟩
    .obtain rfl:m=bd.length:=Yo;have e1:got[p.length+bd.length]=10:=by
      have:got[p.length+bd.length]?=some 10:=by rw[egp,List.getElem?_append_right Yo,show p.length+bd.length-p.length=bd.length by omega,List.append_assoc,List.getElem?_append_right Yo,Nat.sub_self];rfl
      rw[List.getElem?_eq_getElem hpm] at this;exact Option.some.inj this
     refine qg (JV (b:=false) _ _ rfl Qv Qv (Xf (λh=>h (by rw[e1];rfl))) _) ?_;refine qg (aO _ _ _ rfl Qv Qv _) ?_;refine aC<|aQ Qv ?_;exact bY (FE ⟨rfl,YA,YB,Qv,Qv,Qv,Qv,Qv,Qv,H⟩)
   .clear b7 b13 b15 b18 b98 b99 b100 hs hd H;obtain⟨hs,hd,b7,b13,b15,b98,b99,b100,H⟩:=hI;refine aJ (aG ?_);iterate 3 refine qa ?_
    refine fG<|aJ ?_;repeat refine qa ?_
    refine bD ⟨rs.length-(k+1),Yo,k+1,Yo,Yo,YA,YB,Qv,Qv,Eq.trans Qv (by rw[epn,List.length_append,List.length_append];congr 1),Qv,Qv,Eq.trans Qv YC,H⟩
  .obtain rfl:k=rs.length:=by have:=Xg hc;omega
   rw[List.take_length, <-egot] at b15;refine bY (eY ?_);refine aD ?_;iterate 2 refine qa ?_
   refine qg (wC _ rfl Qv _) ?_;refine qg (bT (b:=true) _ _ rfl Qv Qv (Xt rfl) _) ?_;refine qa ?_;iterate 4 refine gM ?_
   iterate 2 refine gM (hw:=aCu rfl rfl rfl Qv) ?_
   refine gM ?_;refine qg (aO _ _ _ rfl Qv Qv _) ?_;refine qa ?_;refine aC ?_;exact aN (aK YB (bL rfl Qv) ⟨rfl,H.bel⟩)
end Go.Proofs.YthimcecbgpamdaaGreatDoor
