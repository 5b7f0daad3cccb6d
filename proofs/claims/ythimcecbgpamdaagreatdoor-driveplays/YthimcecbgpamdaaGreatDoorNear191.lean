import Derived.Test.YthimcecbgpamdaaGreatDoorNear171
set_option maxHeartbeats 8000000
set_option maxRecDepth 10000
open _root_ renaming rfl->M,Nat->O,Int->Y,if_pos->γ,if_neg->ε,List->θ,absurd->ρ,Option->Ψ,congrArg->ã
open Go.Proofs.YthimcecbgpamdaaGreatDoor renaming Qv->N,Yo->R,aC->T,qa->U,qg->Z,vhI->ν,R64->ο,q_c->π,digW->σ,aTY->φ,numW->ψ,RdS->Γ,aTZ->Θ,stW->Λ,rpT->Ξ,tunP->Φ,fRest->à,LstI->á,NdOK->â,R64_nought->ä
open Option renaming some->V
open Go.Proofs.Tryz renaming prog->β
open Go renaming execOp->δ,World->ζ,Operand->ι,Calls->υ,Oper->χ,Addr->ω,yielded->å
open Go.Value renaming int->η,slice->κ,bool->ξ,pointer->τ,tuple->Δ
open Go.IntKind renaming i64->μ
open Go.World renaming ownsRow->Ω
namespace Go.Proofs.YthimcecbgpamdaaGreatDoor
open Go.RowKit Go.Lib
def nQ(fr:Y)(D:O->Nd×Ad)(rd:O->O->Y)(bad:Y)(lv:Value)(j:O):Value:=if j<297 then kZ fr D j else jW rd bad lv (j-297)
abbrev plL(B b:O)(fr:Y)(D:O->Nd×Ad)(c:Li)(p v:Value)(o:θ UInt8):θ It:=
 [ν 69 b 313 313 (jN (nQ fr D c.rd c.bad (κ c.lo c.LL.length c.lc)) p v),yF B v o,oU B D,fU B 81 3 (κ c.lo c.LL.length c.lc) c.LL.length (qP QW 3 c.LL),CY (QV B) c.LL]
structure PlOK (s:Pl) (D:O->Nd×Ad) (c:Li):Prop where
 nd:∀i,i<4->(D i).1=s.c.nd i
 x:c.x=s.x
 cl:uF s.c
 ip:IpOK s.x
 bad: -1<=s.x.bad/\s.x.bad<=3
 ly:s.x.ly.length<=400
 lc:c.LL.length<=c.lc
 by_:∀d,d∈c.LL->d.y.n<=140737488351232
 fr:0<=s.c.fr/\s.c.fr<=1073741824
def PlAt(w0 w:ζ)(b:O)(s:Pl):Prop:=∃(D:O->Nd×Ad) (c:Li) (p v:Value),PlOK s D c/\FZ b p/\Cx w0 w (plL w0.heap.size b s.c.fr D c p v s.o)
variable{w w0:ζ}
theorem noLies{x0 x1 x2:It}{l:θ It}(B:O)(H:Cx w0 w (x0::x1::x2::l)):Cx w0 w [x0,x1,x2,fU B 81 3 (.slice none 0 0) 0 [],CY (QV B) []]:=
 (((H.sub (m:=[x0,x1,x2]) (.cons_cons _ (.cons_cons _ (.cons_cons _ (El _))))).add (Af _ _) (CY (QV B) []) (λ_ h=>nomatch h) (λ_ ⟨_,h,_⟩=>nomatch h)).b3.add (Af _ _) (fU B _ _ _ _ _) (Am _ _ _ _) (λ_ e=>nomatch e)).b3
def TV:Li:=⟨λ_ _=>0, -1,[],none,0⟩
section
variable {f:ι->Value} {o:χ}
theorem TC(ho:o.op=.build 27 #[(0,.const (.int .i64 4294967296)),(1,.const (.int .i64 4294967296)),(2,.const (.int .i64 4294967296)),(3,.const (.int .i64 68719476736))])(hc:∀v,f (.const v)=v)(w:ζ):(δ f o).run β w=.ok (.value (aX (qF ⟨4294967296,4294967296,4294967296,68719476736⟩) 0 4)) w:=by unfold δ;rw[ho];simp only[Ay,Aw,Az,hc];kernel_rfl
theorem SY(ho:o.op=.build 52 #[(1,.const (.int .i64 (-1)))])(hc:∀v,f (.const v)=v)(w:ζ):(δ f o).run β w=.ok (.value (aX (jW (λ_ _=>0) (-1) (.slice none 0 0)) 0 14)) w:=by unfold δ;rw[ho];simp only[Ay,Aw,Az,hc];kernel_rfl
theorem aIo{p q:ι}(ho:o.op=.build 69 #[(0,p),(1,q)]){fr bad:Y}{D:O->Nd×Ad}{rd:O->O->Y}{lv:Value}(hp:f p=aX (kZ fr D) 0 297)(hq:f q=aX (jW rd bad lv) 0 14)(w:ζ):(δ f o).run β w=.ok (.value (aX (jN (nQ fr D rd bad lv) (.pointer none) (.slice none 0 0)) 0 313)) w:=by
 refine aBN (z:=jN (nQ 0 (λ_=>(dS,(none,0))) (λ_ _=>0) 0 (κ none 0 0)) (τ none) (κ none 0 0)) (places:=#[(0,297),(297,14),(311,2)]) Tryz.underlying69 (λw=>Yl) (λw=>Yl) ho ?_ w;rw[show (Array.map (λp:Nat×Operand=>(p.1,f p.2)) #[(0,p),(1,q)]).toList=[(0,f p),(1,f q)] by simp];rw[hp,hq,QI (off:=0) (n:=297) M (yE _ _) Yc,QI (off:=297) (n:=14) M (yE _ _) Yc];refine ã V ?_;unfold kU;refine ã List.toArray (Cw λj hj=>?_);have hj:=Df.1 hj;unfold stP jN nQ;by_cases c1:j<297
 .rw[ε R,γ R,γ R,γ c1,Nat.sub_zero]
 by_cases c2:j<311
 .rw[γ R,γ c2,ε c1]
 rw[ε R,ε R,ε c2,ε c2]
end
instance iDrvG_1:ManyK β 69 313:=⟨Bg _ Tryz.underlying69 rfl Yl⟩
instance iDrvG_3:ZerK β 27 4 (qF ⟨0,0,0,0⟩):=⟨λw=>Yl⟩
theorem TP:Tn.Ok ⟨4294967296,4294967296,4294967296,68719476736⟩:=by constructor<;>(unfold ο;dsimp only;omega)
theorem neg1_R:ο (-1):=by unfold ο;omega
theorem aCz(w:ζ):υ β 14 #[] w λe w'=>∃b,e=.returned (.pointer (V ⟨b,0,none⟩))/\PlAt w w' b MV:=by refine bC Tryz.func14 rfl 8 rfl Yd (λA hs hd hb=>?_);clear hb;have H:=Bl w;refine aD (aG ?_);refine U ?_;refine T<|aD<|qg (TC rfl (λ_=>rfl) _) ?_;refine gQ H ?_;clear H;intro w1 H z1;refine gH H.a0 aZ (λ_ _=>rfl) ?_;clear H;intro w2 H z2;refine T<|aD<|qa ?_;refine π (PT _ _ TP) ?_;rintro e w3 ⟨D,rfl,hD,G⟩;refine⟨_,M,?_⟩;have hsz:=H.size;replace H:=xJ (H.plus G) hsz;refine Z (SY M (λ_=>rfl) _) ?_;refine Z (aIo M N N _) ?_;refine jO H ?_;clear H;intro w4 H z4;refine U ?_;refine T ?_;have hsz:=H.size;have hO:PlOK MV D TV:={ nd:=hD,x:=rfl,cl:=begC_ok TP,ip:=⟨λ_ _=>ä,neg1_R,λ_ h=>nomatch h⟩,bad:=⟨Bp _,by decide⟩,ly:=Xz _,lc:=Xr _,by_:=(λ_ h=>nomatch h),fr:=⟨Bp _,by decide⟩ };refine aQ (aN YB (bS M N) ⟨_,M,D,TV,τ none,κ none 0 0,hO,Aa M,?_⟩);replace H:=(H.add (Af _ _) (yF w.heap.size (κ none 0 0) []) ⟨Am _ _ _ _,λ_=>rfl⟩ (λj e=>nomatch e)).f1;exact noLies _ H
theorem aPk(l:θ UInt8):ο (jL l):=by
 unfold jL;split
 .exact ä
 split
 .exact ä
 split
 .exact ä
 exact D5 _
variable{l:θ Y}{ws:θ (θ UInt8)}
theorem rV(h:ψ ws=V l)(i:O):ο (gL l i):=by
 unfold ψ at h;split at h
 .cases h;unfold gL;rw[Bh,Bu];cases ws[i]? with
  |none=>exact ä
  |some t=>exact aPk t
 exact ρ h (by simp)
theorem aHU(fr fr':Y)(D D':O->Nd×Ad)(rd:O->O->Y)(bad:Y)(lv p v:Value):∀j,j<313->stP (jN (nQ fr D rd bad lv) p v) (0+0) 297 (kZ fr' D') j=jN (nQ fr' D' rd bad lv) p v j:=λj hj=>by
 unfold stP jN nQ;by_cases c1:j<297
 .rw[γ R,γ R,γ c1,show j-(0+0)=j by omega]
 rw[ε R];by_cases c2:j<311
 .rw[γ c2,γ c2,ε c1,ε c1]
 rw[ε c2,ε c2]
variable{f:ι->Value}
theorem TD{o:χ}{x0 x1 x2 x3:ι}(ho:o.op=.build 27 #[(0,x0),(1,x1),(2,x2),(3,x3)]){a b c d:Y}(h0:f x0=.int .i64 a)(h1:f x1=.int .i64 b)(h2:f x2=.int .i64 c)(h3:f x3=.int .i64 d)(w:ζ):(δ f o).run β w=.ok (.value (aX (qF ⟨a,b,c,d⟩) 0 4)) w:=by unfold δ;rw[ho];simp only[Ay,Aw,Az,h0,h1,h2,h3];kernel_rfl
variable{b:O}{s:Pl}
theorem aFY(mx:Y)(hm:w0.cell? ⟨1,0,none⟩=V (.int .i64 mx))(hP:PlAt w0 w b s)(ws:θ (θ UInt8))(ao:Ψ ω)(cap:O)(hr:Γ xH 1 w ao ws)(hl:ws.length<=1000000):υ β 38 #[.pointer (V ⟨b,0,none⟩),.slice ao ws.length cap] w λe w'=>e=.returned (.bool (Φ s ws).isSome)/\PlAt w0 w' b ((Φ s ws).getD s):=by
 obtain⟨D,c,p,v,hO,hp,H⟩:=hP;refine bC Tryz.func38 M 36 M Yd (λA hs hd hb=>?_);have b0:A.eval (.tmp 0)=τ (V ⟨b,0,none⟩):=hb 0 _ M;have b1:A.eval (.tmp 1)=κ ao ws.length cap:=hb 1 _ M;clear hb;refine aD (aG ?_);refine U ?_;refine T<|aD<|qa ?_;refine π (vG ws ao cap mx w (aP hm H.bel) hr hl) ?_;rintro e w1 ⟨u,rfl,hu,k1⟩;have no:Φ s ws=none->∀A',A'.defers=[]->A'.eval (.tmp 4)=ξ false->bodyPost β Tryz.f38 (λe w'=>e=.returned (ξ (Φ s ws).isSome)/\PlAt w0 w' b ((Φ s ws).getD s)) .ret A' w1:=λe0 A' hd' h4=>aN hd' (bS M h4) ⟨by rw[e0];rfl,by rw[e0];exact⟨D,c,p,v,hO,hp,H.call k1⟩⟩;cases hN:ψ ws with
 |none=>
  refine⟨Δ #[u,ξ false],M,?_⟩;iterate 5 refine U ?_
  refine T<|aH<|aD ?_;iterate 3 refine U ?_
  iterate 3 refine bP ?_
  refine Θ ?_;refine T<|aS N ?_;refine aD<|qa ?_;refine T ?_;exact aQ (fF (no (by unfold Φ;rw[hN]) _ YB N))
 |some l=>
  have G:=hu l hN;obtain⟨a',c',rfl,_⟩:=dU (show Ω _ _ _ _ _ _ _ from G.o0);refine⟨Δ #[κ a' l.length c',ξ true],M,?_⟩;iterate 5 refine U ?_
  refine T<|aH<|aD ?_;iterate 5 refine U ?_
  by_cases h4:l.length=4
  .refine aUb ?_;refine φ ?_;refine T<|aO N ?_;refine aR ?_;obtain⟨x0,x1,x2,x3,rfl⟩:∃x0 x1 x2 x3,l=[x0,x1,x2,x3]:=by
    match l,h4 with
    |[x0,x1,x2,x3],_=>exact⟨x0,x1,x2,x3,rfl⟩
   have ho:Ω _ _ _ _ _ _ _:=G.o0;obtain⟨r,rfl,hcell⟩:∃r,a'=V ⟨r,0,none⟩/\∀i,i<4->w1.drew.cell? ⟨r,0+i*1,none⟩=V (η μ (gL [x0,x1,x2,x3] i)):=by
    rcases ho.2 with ⟨_,e⟩|⟨g,cap',cur,e,rest⟩
    .exact ρ (show 4=0 from e) R
    injection e with e1 _ _;refine⟨g,e1,λi hi=>?_⟩;rw[e1] at ho;have:=ho.cells (g:=g) M i (η μ (gL [x0,x1,x2,x3] i)) (by unfold rowV;show ((List.range 4).map _)[i]?=_;rw[Bu,Cr hi];rfl);rw[show 0+i*1=i by omega];have e3:(⟨g,0,none⟩:ω).add i=⟨g,i,none⟩:=by rw[kC,Ah]
    rw[e3] at this;exact this
   replace H:=(H.plus G).drew;have htn:Tn.Ok ⟨x0,x1,x2,x3⟩:=⟨rV hN 0,rV hN 1,rV hN 2,rV hN 3⟩;have hS:(λW'=>Below w1.drew.heap.size w1.drew W') w1.drew:=Af _ _;refine aH<|fI (S:=λW'=>Below w1.drew.heap.size w1.drew W') (.mv 0 (.mv 1 (.mv 2 (.rd 3 (.mv 4 (.mv 5 (.rd 6 (.mv 7 (.mv 8 (.rd 9 (.mv 10 (.mv 11 (.rd 12 (.mv 13 (.go 14 (.mv 15 (.mv 16 (.go 17 .fin)))))))))))))))))) [17] Yl Yl ?_;iterate 2 refine qj ?_
   refine dC M M (λ_ _ _ h=>h) Yw (λw=>dD (i:=0) _ _ _ _ M SlcK.out SizK.out N N M (show 0<4 by omega) w) ?_;refine Yr M hS (λ_ H=>gP OneK.out (aP (hcell 0 R) H) M N) ?_;refine qj ?_;refine dC M M (λ_ _ _ h=>h) Yw (λw=>dD (i:=1) _ _ _ _ M SlcK.out SizK.out N N M (show 1<4 by omega) w) ?_;refine Yr M hS (λ_ H=>gP OneK.out (aP (hcell 1 R) H) M N) ?_;refine qj ?_;refine dC M M (λ_ _ _ h=>h) Yw (λw=>dD (i:=2) _ _ _ _ M SlcK.out SizK.out N N M (show 2<4 by omega) w) ?_;refine Yr M hS (λ_ H=>gP OneK.out (aP (hcell 2 R) H) M N) ?_;refine qj ?_;refine dC M M (λ_ _ _ h=>h) Yw (λw=>dD (i:=3) _ _ _ _ M SlcK.out SizK.out N N M (show 3<4 by omega) w) ?_;refine Yr M hS (λ_ H=>gP OneK.out (aP (hcell 3 R) H) M N) ?_;refine dC M M (λ_ _ _ h=>h) Yw (λw=>TD (a:=x0) (b:=x1) (c:=x2) (d:=x3) M N N N N w) ?_;refine j_c (PT ⟨x0,x1,x2,x3⟩ _ htn) ?_;rintro e w2 ⟨D',rfl,hD',G2⟩;refine⟨_,M,λ_ h=>h.trans (G2.bel.mono h.size),?_⟩;have hsz:=H.size;replace H:=xJ (H.plus G2) hsz;iterate 2 refine qj ?_
   refine aUc H.v2 (oN _ _) (λw3 m3 k3 z3=>⟨λh=>ρ h Yc,?_⟩);replace H:=H.a2.s k3 (m3.congr (aHU _ _ _ _ _ _ _ _ _));refine gM<|aD<|qa ?_;refine T ?_;have e0:Φ s ws=V { s with c:=begC ⟨x0,x1,x2,x3⟩ }:=by unfold Φ;rw[hN]
   refine aQ (aN YB (bS M N) ⟨by rw[e0];rfl,?_⟩);rw[e0];exact⟨D',c,p,v,{ nd:=hD',x:=hO.x,cl:=begC_ok htn,ip:=hO.ip,bad:=hO.bad,ly:=hO.ly,lc:=hO.lc,by_:=hO.by_,fr:=⟨Bp _,by show (0:Y)<=1073741824;decide⟩ },hp,(H.f1.tl.b2).sub (.cons_cons _ (.cons_cons _ (.cons_cons _ (.cons _ (.cons_cons _ (.cons_cons _ (El _)))))))⟩
  refine aUa ?_;refine φ ?_;refine T<|aS N ?_;refine aD<|qa ?_;refine T ?_;exact aQ (fF (no (by
   unfold Φ;rw[hN];split
   .rename_i e;cases e;exact ρ M h4
   rfl) _ YB N))
variable{i:O}{k:θ UInt8}
theorem vY{m:O}(h:σ k m=V i):i<=m:=by
 unfold σ at h;split at h
 .split at h
  .cases h;omega
  exact ρ h (by simp)
 exact ρ h (by simp)
variable{D:O->Nd×Ad}{bad fr:Y}{lv v:Value}{rd:O->O->Y}
theorem JG{p:Value}{q:O}{u:Value}{rd':O->O->Y}{bad':Y}{lv':Value}(hq:q<14)(h:∀j,j<14->Λ (jW rd bad lv) q u j=jW rd' bad' lv' j):∀j,j<313->Λ (jN (nQ fr D rd bad lv) p v) (297+q) u j=jN (nQ fr D rd' bad' lv') p v j:=λj hj=>by
 by_cases c1:j<297
 .unfold Λ jN nQ;rw[ε R,γ (show j<311 by omega),γ c1,γ (show j<311 by omega),γ c1]
 by_cases c2:j<311
 .have:=h (j-297) R;unfold Λ at this ⊢;unfold jN nQ;rw[γ c2,γ c2,ε c1,ε c1, <-this];by_cases e:j=297+q
  .rw[γ e,γ R]
  rw[ε e,ε R]
 unfold Λ jN;rw[ε R,ε c2,ε c2]
theorem CV(rd:O->O->Y)(bad bad':Y)(lv:Value):∀j,j<14->Λ (jW rd bad lv) 12 (.int .i64 bad') j=jW rd bad' lv j:=λj hj=>by
 unfold Λ jW;by_cases e:j=12
 .rw[γ e,ε R,γ e];rfl
 rw[ε e];by_cases c:j<12
 .rw[γ c,γ c]
 rw[ε c,ε c,ε e,ε e]
theorem zR(rd:O->O->Y)(bad:Y)(lv lv':Value):∀j,j<14->Λ (jW rd bad lv) 13 lv' j=jW rd bad lv' j:=λj hj=>by
 unfold Λ jW;by_cases e:j=13
 .rw[γ e,ε R,ε R]
 rw[ε e];by_cases c:j<12
 .rw[γ c,γ c]
 rw[ε c,ε c,γ R,γ R]
theorem aGp(hP:PlAt w0 w b s)(ws:θ (θ UInt8))(ao:Ψ ω)(cap:O)(hr:Γ xH 1 w ao ws)(hl:ws.length<=1000000):υ β 40 #[.pointer (V ⟨b,0,none⟩),.slice ao ws.length cap] w λe w'=>e=.returned (.bool (yU s ws).isSome)/\PlAt w0 w' b ((yU s ws).getD s):=by
 obtain⟨D,c,p,v,hO,hp,H⟩:=hP;refine bC Tryz.func40 M 24 M Yd (λA hs hd hb=>?_);have b0:A.eval (.tmp 0)=τ (V ⟨b,0,none⟩):=hb 0 _ M;have b1:A.eval (.tmp 1)=κ ao ws.length cap:=hb 1 _ M;clear hb;refine aD (aG ?_);refine U ?_;refine T<|aH<|aD ?_;iterate 2 refine U ?_
 by_cases h1:ws.length=1
 .refine aUb ?_;refine T<|aO N ?_;refine aR ?_;obtain⟨k,rfl⟩:∃k,ws=[k]:=List.length_eq_one_iff.1 h1;obtain⟨tb,to',rfl,hcell⟩:=hr Nat.one_pos;have hcell:=hcell 0 k M 0 R;refine aD<|qa ?_;refine Z (dD (i:=0) _ _ _ _ M SlcK.out SizK.out N N M Nat.one_pos _) ?_;refine Z (gP (v:=tV k) OneK.out hcell M N) ?_;refine π (uT k 3 w) ?_;rintro e w1 ⟨n,rfl,hn,k1⟩;replace H:=H.call k1;cases hN:σ k 3 with
  |none=>
   have e0:yU s [k]=none:=by show (σ k 3).map _=none;rw[hN];rfl
   refine⟨Δ #[η μ n,ξ false],M,?_⟩;iterate 5 refine U ?_
   refine T<|aH<|aD<|qa ?_;refine T<|aO N ?_;refine aR<|aD ?_;iterate 2 refine U ?_
   refine T ?_;exact aQ (aN YB (bS M N) ⟨by rw[e0];rfl,by rw[e0];exact⟨D,c,p,v,hO,hp,H⟩⟩)
  |some i=>
   have hi:=vY hN;obtain rfl:=hn i hN;have e0:yU s [k]=V { s with x:={ s.x with bad:=(i:O) } }:=by show (σ k 3).map _=_;rw[hN];rfl
   refine⟨Δ #[η μ (i:O),ξ true],M,?_⟩;iterate 5 refine U ?_
   refine T<|aH<|aD<|qa ?_;refine T<|aS N ?_;refine aI ?_;iterate 5 refine U ?_
   refine kX H.a0 (q:=0+297+12) (g':=jN (nQ s.c.fr D c.rd (i:O) (κ c.lo c.LL.length c.lc)) p v) (JG (q:=12) R (CV _ _ _ _)) ?_;clear H;intro w2 H z2;refine T<|aD ?_;iterate 2 refine U ?_
   refine T<|aQ (aN YB (bS rfl N) ⟨by rw[e0];rfl,?_⟩);rw[e0];have hx:(⟨c.rd,(i:O),c.LL.map Lj.y⟩:Ip)={ s.x with bad:=(i:O) }:=by rw[<-hO.x];rfl
   exact⟨D,{ c with bad:=(i:O) },p,v,{ nd:=hO.nd,x:=hx,cl:=hO.cl,ip:=⟨hO.ip.rd,by show ο ((i:O):Y);unfold ο;omega,hO.ip.g⟩,bad:=⟨by show (-1:Y)<=(i:O);omega,by show ((i:O):Y)<=3;omega⟩,ly:=hO.ly,lc:=hO.lc,by_:=hO.by_,fr:=hO.fr },hp,H⟩
 have e0:yU s ws=none:=by
  unfold yU;split
  .exact ρ M h1
  rfl
 refine aUa ?_;refine T<|aS N ?_;refine aD<|qa ?_;refine T ?_;exact aQ (fF (aN YB (bS M N) ⟨by rw[e0];rfl,by rw[e0];exact⟨D,c,p,v,hO,hp,H⟩⟩))
theorem aFi(hP:PlAt w0 w b s)(ws:θ (θ UInt8))(ao:Ψ ω)(cap:O)(hl:ws.length<=1000000):υ β 41 #[.pointer (V ⟨b,0,none⟩),.slice ao ws.length cap] w λe w'=>e=.returned (.bool (NI s ws).isSome)/\PlAt w0 w' b ((NI s ws).getD s):=by
 obtain⟨D,c,p,v,hO,hp,H⟩:=hP;refine bC Tryz.func41 M 16 M Yd (λA hs hd hb=>?_);have b0:A.eval (.tmp 0)=τ (V ⟨b,0,none⟩):=hb 0 _ M;have b1:A.eval (.tmp 1)=κ ao ws.length cap:=hb 1 _ M;clear hb;refine aD (aG ?_);refine U ?_;refine T<|aH<|aD ?_;iterate 2 refine U ?_
 cases ws with
 |nil=>
  refine Z (dO (b:=false) _ _ M N N (Xf Yc) _) ?_;refine T<|aO N ?_;refine aR<|aD ?_;iterate 5 refine U ?_
  refine kX H.a0 (q:=0+297+12) (g':=jN (nQ s.c.fr D c.rd (-1) (κ c.lo c.LL.length c.lc)) p v) (JG (q:=12) R (CV _ _ _ _)) ?_;clear H;intro w2 H z2;iterate 3 refine U ?_
  refine kX H.a0 (q:=0+297+13) (g':=jN (nQ s.c.fr D c.rd (-1) (κ none 0 0)) p v) (JG (q:=13) R (zR _ _ _ _)) ?_;clear H;intro w3 H z3;refine T<|aD<|qa ?_;refine T ?_;have hx:(⟨c.rd, -1,[]⟩:Ip)={ s.x with bad:= -1,ly:=[] }:=by rw[<-hO.x];rfl
  have hO':PlOK { s with x:={ s.x with bad:= -1,ly:=[] } } D ⟨c.rd, -1,[],none,0⟩:={ nd:=hO.nd,x:=hx,cl:=hO.cl,ip:=⟨hO.ip.rd,neg1_R,(λ_ h=>nomatch h)⟩,bad:=⟨Bp _,by show (-1:Y)<=3;decide⟩,ly:=Xz _,lc:=Xr _,by_:=(λ_ h=>nomatch h),fr:=hO.fr };refine aQ (aN YB (bS M N) ⟨M,D,⟨c.rd, -1,[],none,0⟩,p,v,hO',hp,?_⟩);exact noLies _ H
 |cons k ws=>refine Z (dO (b:=true) _ _ rfl N N (Xt (by rw[Ai];omega)) _) ?_;refine T<|aS N ?_;refine aD<|qa ?_;refine T ?_;exact aQ (fF (aN YB (bS M N) ⟨M,D,c,p,v,hO,hp,H⟩))
section
variable {f:ι->Value} {o:χ}
theorem zM(x y:ι)(ho:o.op=.slice 59 x (V y) none none){a:ω}{n cap:O}{z:Y}(hx:f x=.slice (V a) n cap)(hy:f y=.int .i64 z)(hz:z=(i:Y))(hi:i<=n)(hc:i<cap)(w:ζ):(δ f o).run β w=.ok (.value (.slice (V (a.add i)) (n-i) (cap-i))) w:=by subst hz;have hi2:(i:Y)<=n:=R;have hne:¬cap=i:=R;unfold δ;rw[ho];simp only[Cc,Dx];rw[hx,hy];go_simp
theorem X6(x:ι)(ho:o.op=.slice 59 x (V (.const (.int .i64 1))) none none){off n cap:O}(hx:f x=.slice (V ⟨b,off,none⟩) (n+1) cap)(hc:1<cap)(w:ζ)(hk:∀v,f (.const v)=v:=by exact λ_=>rfl):(δ f o).run β w=.ok (.value (.slice (V ⟨b,off+1,none⟩) n (cap-1))) w:=by have:=zM (i:=1) x _ ho hx (hk _) rfl R hc w;rw[kC] at this;exact this
end
variable{q:θ (θ UInt8)}
theorem L8{o:O}(h:Γ xH 1 w (V ⟨b,o,none⟩) (k::q)):Γ xH 1 w (V ⟨b,o+1,none⟩) q:=λ_=>⟨b,o+1,rfl,λi c hi j hj=>by obtain⟨b',o',e,hc⟩:=h (by simp);cases e;have:=hc (i+1) c hi j hj;rw[show o+(i+1)*1+j=o+1+i*1+j by omega] at this;exact this⟩
theorem aSj{p:Value}(hi:i<4):∀j,j<313->stP (jN (nQ fr D rd bad lv) p v) (0+297+0+i*3) 3 (iF (gL l)) j=jN (nQ fr D (λs a=>if s=i then gL l a else rd s a) bad lv) p v j:=λj hj=>by
 unfold stP jN nQ jW;by_cases c1:j<297
 .rw[ε R,γ (show j<311 by omega),γ c1,γ (show j<311 by omega),γ c1]
 by_cases c2:j<311
 .rw[γ c2,ε c1,γ c2,ε c1];by_cases c3:j-297<12
  .rw[γ c3,γ c3];by_cases e:(j-297)/3=i
   .rw[γ R];dsimp only;rw[γ e];unfold iF;rw[show j-(0+297+0+i*3)=(j-297)%3 by omega];rfl
   rw[ε R];dsimp only;rw[ε e]
  rw[ε c3,ε c3,ε R]
 rw[ε R,ε c2,ε c2]
theorem aBD(h:σ k 3=none):rE s (k::q)=none:=by simp only[rE,h]
theorem aBE(h:ψ q=none):rE s (k::q)=none:=by simp only[rE,h];cases σ k 3<;>rfl
theorem J8(h:ψ q=V l):l.length=q.length:=by
 unfold ψ at h;split at h
 .cases h;exact Ao ..
 exact ρ h (by simp)
theorem JD{w':ζ}{B:O}(G:Cx w w' [fU B 3 1 v l.length (rowV (iF (gL l)) l.length)])(h:0<l.length):∃r c,v=.slice (V ⟨r,0,none⟩) l.length c/\∀i,i<l.length->w'.cell? ⟨r,i,none⟩=V (.int .i64 (gL l i)):=by
 obtain⟨a',c',rfl,_⟩:=dU (show Ω _ _ _ _ _ _ _ from G.o0);have ho:Ω _ _ _ _ _ _ _:=G.o0;rcases ho.2 with ⟨_,e⟩|⟨g,cap',cur,e,rest⟩
 .exact ρ (show l.length=0 from e) R
 injection e with e1 _ _;subst e1;refine⟨g,c',M,λi hi=>?_⟩;have:=ho.cells (g:=g) M i (η μ (gL l i)) (by unfold rowV;rw[Bu,Cr hi];rfl);have e3:(⟨g,0,none⟩:ω).add i=⟨g,i,none⟩:=by rw[kC,Ah]
 rw[e3] at this;exact this
theorem aBC(h:ws.length≠4):rE s ws=none:=by
 unfold rE;split
 .split
  .rename_i e;unfold ψ at e;split at e
   .have:=ã List.length (Dp e);rw[Ao] at this;exact ρ (show _+1=4 by rw[this];rfl) h
   exact ρ e (by simp)
  rfl
 rfl
theorem aFy(mx:Y)(hm:w0.cell? ⟨1,0,none⟩=V (.int .i64 mx))(hP:PlAt w0 w b s)(ws:θ (θ UInt8))(ao:Ψ ω)(cap:O)(hr:Γ xH 1 w ao ws)(hl:ws.length<=1000000)(hlc:ws.length<=cap):υ β 39 #[.pointer (V ⟨b,0,none⟩),.slice ao ws.length cap] w λe w'=>e=.returned (.bool (rE s ws).isSome)/\PlAt w0 w' b ((rE s ws).getD s):=by
 obtain⟨D,c,p,v,hO,hp,H⟩:=hP;refine bC Tryz.func39 M 40 M Yd (λA hs hd hb=>?_);have b0:A.eval (.tmp 0)=τ (V ⟨b,0,none⟩):=hb 0 _ M;have b1:A.eval (.tmp 1)=κ ao ws.length cap:=hb 1 _ M;clear hb;have no:rE s ws=none->∀A' w',Cx w0 w' (plL w0.heap.size b s.c.fr D c p v s.o)->A'.defers=[]->A'.eval (.tmp 4)=ξ false->bodyPost β Tryz.f39 (λe w'=>e=.returned (ξ (rE s ws).isSome)/\PlAt w0 w' b ((rE s ws).getD s)) .ret A' w':=λe0 A' w' H' hd' h4=>aN hd' (bS M h4) ⟨by rw[e0];rfl,by rw[e0];exact⟨D,c,p,v,hO,hp,H'⟩⟩;refine aD (aG ?_);refine U ?_;refine T<|aH<|aD ?_;iterate 2 refine U ?_
 by_cases h4:ws.length=4
 .refine aUb ?_;refine T<|aO N ?_;refine aR ?_;obtain⟨k,q,rfl⟩:∃k q,ws=k::q:=by
   cases ws with
   |nil=>exact ρ h4 (by simp)
   |cons k q=>exact⟨k,q,rfl⟩
  obtain⟨tb,to',rfl,hcell⟩:=hr R;have hcell:=hcell 0 k M 0 R;have hq3:q.length=3:=by rw[Ai] at h4;omega
  refine aD<|qa ?_;refine Z (dD (i:=0) _ _ _ _ M SlcK.out SizK.out N N M R _) ?_;refine Z (gP (v:=tV k) OneK.out hcell M N) ?_;have hm1:=aP hm H.bel;refine π (uT k 3 w) ?_;rintro e w1 ⟨n,rfl,hn,k1⟩;replace H:=H.call k1;have hr1:Γ xH 1 w1 (V ⟨tb,to'+1,none⟩) q:=L8 (λh=>by obtain⟨b',o',e,hc⟩:=hr h;exact⟨b',o',e,λi c hi j hj=>aP (hc i c hi j hj) k1⟩);have hm2:=aP hm1 k1;cases hD:σ k 3 with
  |none=>
   refine⟨Δ #[η μ n,ξ false],M,?_⟩;iterate 5 refine U ?_
   refine T<|aD<|qa ?_;refine Z (X6 _ M N R _) ?_;refine π (vG q (V ⟨tb,to'+1,none⟩) (cap-1) mx w1 hm2 hr1 R) ?_;rintro e w2 ⟨u,rfl,hu,k2⟩;replace H:=H.call k2;refine⟨_,M,?_⟩;iterate 5 refine U ?_
   refine T<|aH<|aD ?_;iterate 3 refine U ?_
   iterate 2 refine bP ?_
   refine Θ ?_;refine T<|aS N ?_;refine aD<|qa ?_;refine T ?_;exact aQ (fF (no (aBD hD) _ _ H YB N))
  |some i=>
   have hi:=vY hD;obtain rfl:=hn i hD;refine⟨Δ #[η μ (i:O),ξ true],M,?_⟩;iterate 5 refine U ?_
   refine T<|aD<|qa ?_;refine Z (X6 _ M N R _) ?_;refine π (vG q (V ⟨tb,to'+1,none⟩) (cap-1) mx w1 hm2 hr1 R) ?_;rintro e w2 ⟨u,rfl,hu,k2⟩;replace H:=H.call k2;cases hN:ψ q with
   |none=>
    refine⟨Δ #[u,ξ false],M,?_⟩;iterate 5 refine U ?_
    refine T<|aH<|aD ?_;iterate 5 refine U ?_
    refine φ ?_;refine T<|aS N ?_;refine aD<|qa ?_;refine T ?_;exact aQ (fF (no (aBE hN) _ _ H YB N))
   |some l=>
    have hl3:l.length=3:=(J8 hN).trans hq3;obtain⟨r,c',rfl,hc⟩:=JD (hu l hN) R;refine⟨Δ #[κ (V ⟨r,0,none⟩) l.length c',ξ true],M,?_⟩;iterate 5 refine U ?_
    refine T<|aH<|aD ?_;iterate 5 refine U ?_
    refine φ ?_;refine T<|aO N ?_;refine aR<|aD ?_;iterate 5 refine U ?_
    refine Z (bB (i:=i) _ _ _ _ M ArrK.out SizK.out N N M R _) ?_;refine Z (yQ _ M N _) ?_;refine U ?_;refine bI M Yw (λK hK=>?_);refine aCr _ _ _ M (f:=iF (gL l)) N H.a0.o R N hl3 (λa ha=>by rw[kC,Ah];exact hc a R) (λ_ _=>rfl) ?_;intro w3 m3 k3 z3;refine hK _ _ ?_;clear hK K;replace H:=H.a0.s k3 (m3.congr (aSj R));refine T<|aD<|qa ?_;refine T ?_;obtain⟨x0,x1,x2,rfl⟩:∃x0 x1 x2,l=[x0,x1,x2]:=by
     match l,hl3 with
     |[x0,x1,x2],_=>exact⟨x0,x1,x2,rfl⟩
    have e0:rE s (k::q)=V { s with x:={ s.x with rd:=λj q=>if j=i then gL [x0,x1,x2] q else s.x.rd j q } }:=by simp only[rE,hD,hN]
    refine aQ (aN YB (bS M N) ⟨by rw[e0];rfl,?_⟩);rw[e0];have hrr:∀j a,ο (if j=i then gL [x0,x1,x2] a else s.x.rd j a):=λj a=>by
     split
     .exact rV hN a
     exact hO.ip.rd j a
    have hrd:c.rd=s.x.rd:=ã Ip.rd hO.x;have hx:(⟨λj a=>if j=i then gL [x0,x1,x2] a else c.rd j a,c.bad,c.LL.map Lj.y⟩:Ip)={ s.x with rd:=λj q=>if j=i then gL [x0,x1,x2] q else s.x.rd j q }:=by rw[<-hO.x];rfl
    exact⟨D,{ c with rd:=λj a=>if j=i then gL [x0,x1,x2] a else c.rd j a },p,v,{ nd:=hO.nd,x:=hx,cl:=hO.cl,ip:=⟨hrr,hO.ip.bad,hO.ip.g⟩,bad:=hO.bad,ly:=hO.ly,lc:=hO.lc,by_:=hO.by_,fr:=hO.fr },hp,H⟩
 refine aUa ?_;refine T<|aS N ?_;refine aD<|qa ?_;refine T ?_;exact aQ (fF (no (aBC h4) _ _ H YB N))
section
variable {f:ι->Value} {o:χ}
theorem aIx(x:ι)(ho:o.op=.slice 59 x (V (.const (.int .i64 3))) none none){off n cap:O}(hx:f x=.slice (V ⟨b,off,none⟩) (n+3) cap)(hc:n+3<=cap)(w:ζ)(hk:∀v,f (.const v)=v:=by exact λ_=>rfl):(δ f o).run β w=.ok (.value (.slice (V ⟨b,if 3<cap then off+3 else off,none⟩) n (cap-3))) w:=by
 by_cases h:3<cap
 .have:=zM (i:=3) x _ ho hx (hk _) M R h w;rw[kC] at this;rw[γ h];exact this
 obtain rfl:cap=3:=R;obtain rfl:n=0:=R;unfold δ;rw[ho];simp only[Cc,Dx];rw[hx,hk];go_simp
variable{ao:Ψ ω}
theorem TA(a b c:ι)(ho:o.op=.build 81 #[(0,a),(1,b),(2,c)]){x y:Y}{n q:O}(h0:f a=.int .i64 x)(h1:f b=.int .i64 y)(h2:f c=.slice ao n q)(w:ζ):(δ f o).run β w=.ok (.value (aX (lyF x y (.slice ao n q)) 0 3)) w:=by unfold δ;rw[ho];go_simp;rfl
end
variable{p t:θ UInt8}
theorem lieP_none(h:σ p 4=none\/σ t 3=none\/σ k 9=none\/ψ q=none):sI s (p::t::k::q)=none:=by
 simp only[sI];split
 .rfl
 revert h;generalize σ p 4=A;generalize σ t 3=B;generalize σ k 9=C;generalize ψ q=E;intro h;cases A<;>cases B<;>cases C<;>cases E<;>first|rfl|simp at h
theorem UT{i0 i1 i2:O}(h:¬(s.x.bad= -1\/400<=s.x.ly.length))(g0:σ p 4=V i0)(g1:σ t 3=V i1)(g2:σ k 9=V i2)(g3:ψ q=V l):sI s (p::t::k::q)=if wrongM (i2:O) s.x.bad s.c.fr l.length=0 then V { s with x:={ s.x with ly:=s.x.ly++[⟨(i0:O),(i1:O),12+8*l.length,enS (i2:O) s.x.bad s.c.fr l.length (gL l)⟩] } } else none:=by simp only[sI,g0,g1,g2,g3];rw[ε h]
theorem I9(h:ws.length<3\/s.x.bad= -1\/400<=s.x.ly.length):sI s ws=none:=by
 unfold sI;split
 .rw[γ];rcases h with h|h
  .simp only[Ai] at h;omega
  exact h
 rfl
variable{ao:Ψ ω}
theorem VC{w1:ζ}(h:Γ xH 1 w ao ws)(k:Below w.heap.size w w1):Γ xH 1 w1 ao ws:=λh0=>by obtain⟨b',o',e,hc⟩:=h h0;exact⟨b',o',e,λi c hi j hj=>aP (hc i c hi j hj) k⟩
theorem aBB{o:O}{a:ω}(h:Γ xH 1 w (V ⟨b,o,none⟩) (p::t::k::q))(ha:0<q.length->a=⟨b,o+3,none⟩):Γ xH 1 w (V a) q:=λh0=>by rw[ha h0];exact L8 (L8 (L8 h)) h0
theorem aBx(fr:Y)(D:O->Nd×Ad)(rd:O->O->Y)(bad:Y)(lv p v:Value):jN (nQ fr D rd bad lv) p v (0+297+12)=.int .i64 bad:=rfl
theorem aEv(fr:Y)(D:O->Nd×Ad)(rd:O->O->Y)(bad:Y)(lv p v:Value):jN (nQ fr D rd bad lv) p v (0+297+13)=lv:=rfl
theorem aPg(fr:Y)(D:O->Nd×Ad)(rd:O->O->Y)(bad:Y)(lv p v:Value):jN (nQ fr D rd bad lv) p v (0+0+0)=.int .i64 fr:=rfl
theorem aHy(mx:Y)(hm:w0.cell? ⟨1,0,none⟩=V (.int .i64 mx))(hP:PlAt w0 w b s)(ws:θ (θ UInt8))(ao:Ψ ω)(cap:O)(hr:Γ xH 1 w ao ws)(hl:ws.length<=1000000)(hlc:ws.length<=cap):υ β 42 #[.pointer (V ⟨b,0,none⟩),.slice ao ws.length cap] w λe w'=>e=.returned (.bool (sI s ws).isSome)/\PlAt w0 w' b ((sI s ws).getD s):=by
 obtain⟨D,c,p,v,hO,hp,H⟩:=hP;have eb:s.x.bad=c.bad:=(ã Ip.bad hO.x).symm;have el:s.x.ly.length=c.LL.length:=by rw[<-hO.x];exact Ao ..
 have hly:=hO.ly;refine bC Tryz.func42 M 110 M Yd (λA hs hd hb=>?_);have b0:A.eval (.tmp 0)=τ (V ⟨b,0,none⟩):=hb 0 _ M;have b1:A.eval (.tmp 1)=κ ao ws.length cap:=hb 1 _ M;clear hb;have no:sI s ws=none->∀A' w',Cx w0 w' (plL w0.heap.size b s.c.fr D c p v s.o)->A'.defers=[]->A'.eval (.tmp 4)=ξ false->bodyPost β Tryz.f42 (λe w'=>e=.returned (ξ (sI s ws).isSome)/\PlAt w0 w' b ((sI s ws).getD s)) .ret A' w':=λe0 A' w' H' hd' h4=>aN hd' (bS M h4) ⟨by rw[e0];rfl,by rw[e0];exact⟨D,c,p,v,hO,hp,H'⟩⟩;refine aD (aG ?_);refine U ?_;refine T<|aH<|aD ?_;iterate 2 refine U ?_
 by_cases h3:ws.length<3
 .refine aUa ?_;refine U ?_;iterate 6 refine bP ?_
  refine Θ ?_;refine U ?_;iterate 7 refine bP ?_
  refine Θ ?_;refine T<|aS N ?_;refine aD<|qa ?_;refine T ?_;exact aQ (fF (no (I9 (Aa h3)) _ _ H YB N))
 refine aUb ?_;iterate 5 refine U ?_
 refine Z (aT _ _ M OneK.out N H.v0 R (aBx _ _ _ _ _ _ _)) ?_;by_cases h1:c.bad= -1
 .refine aUa ?_;refine φ ?_;refine U ?_;iterate 7 refine bP ?_
  refine Θ ?_;refine T<|aS N ?_;refine aD<|qa ?_;refine T ?_;exact aQ (fF (no (I9 (Ab (Aa (eb.trans h1)))) _ _ H YB N))
 refine aUb ?_;refine φ ?_;iterate 5 refine U ?_
 refine Z (aT _ _ M OneK.out N H.v0 R (aEv _ _ _ _ _ _ _)) ?_;refine U ?_;by_cases h4:400<=c.LL.length
 .refine aUa ?_;refine φ ?_;refine T<|aS N ?_;refine aD<|qa ?_;refine T ?_;exact aQ (fF (no (I9 (Ab (Ab R))) _ _ H YB N))
 refine aUb ?_;refine φ ?_;refine T<|aO N ?_;refine aR ?_;obtain⟨x0,x1,x2,q,rfl⟩:∃x0 x1 x2 q,ws=x0::x1::x2::q:=by
  match ws,h3 with
  |x0::x1::x2::q,_=>exact⟨x0,x1,x2,q,rfl⟩
  |[],h=>exact ρ (show 0<3 by omega) h
  |[_],h=>exact ρ (show 1<3 by omega) h
  |[_,_],h=>exact ρ (show 2<3 by omega) h
 obtain⟨tb,to',rfl,hcell⟩:=hr R;have hm1:=aP hm H.bel;refine aD<|qa ?_;refine Z (dD (i:=0) _ _ _ _ M SlcK.out SizK.out N N M R _) ?_;refine Z (gP (v:=tV x0) OneK.out (hcell 0 x0 M 0 R) M N) ?_;refine π (uT x0 4 w) ?_;rintro e w1 ⟨n0,rfl,hn0,k1⟩;replace H:=H.call k1;generalize hb0:(σ x0 4).isSome=e0;refine⟨Δ #[η μ n0,ξ e0],M,?_⟩;iterate 5 refine U ?_
 refine T<|aD<|qa ?_;refine Z (dD (i:=1) _ _ _ _ M SlcK.out SizK.out N N M R _) ?_;refine Z (gP (v:=tV x1) OneK.out (aP (hcell 1 x1 M 0 R) k1) M N) ?_;refine π (uT x1 3 w1) ?_;rintro e w2 ⟨n1,rfl,hn1,k2⟩;replace H:=H.call k2;have k12:=k1.trans (k2.mono k1.size);generalize hb1:(σ x1 3).isSome=e1;refine⟨Δ #[η μ n1,ξ e1],M,?_⟩;iterate 5 refine U ?_
 refine T<|aD<|qa ?_;refine Z (dD (i:=2) _ _ _ _ M SlcK.out SizK.out N N M R _) ?_;refine Z (gP (v:=tV x2) OneK.out (aP (hcell 2 x2 M 0 R) k12) M N) ?_;refine π (uT x2 9 w2) ?_;rintro e w3 ⟨n2,rfl,hn2,k3⟩;replace H:=H.call k3;have k13:=k12.trans (k3.mono k12.size);generalize hb2:(σ x2 9).isSome=e2;refine⟨Δ #[η μ n2,ξ e2],M,?_⟩;iterate 5 refine U ?_
 refine T<|aD<|qa ?_;refine Z (aIx _ M (n:=q.length) N (by simp only[Ai] at hlc;omega) _) ?_;have hq:q.length<=1000000:=by simp only[Ai] at hl;omega
 refine π (vG q (V ⟨tb,if 3<cap then to'+3 else to',none⟩) (cap-3) mx w3 (aP hm1 k13) (aBB (VC hr k13) (λh=>by rw[γ (by simp only[Ai] at hlc;omega)])) hq) ?_;rintro e w4 ⟨u,rfl,hu,k4⟩;replace H:=H.call k4;generalize hb3:(ψ q).isSome=e3;refine⟨Δ #[u,ξ e3],M,?_⟩;iterate 5 refine U ?_
 refine T<|aH<|aD ?_;iterate 2 refine U ?_
 cases e0 with
 |false=>
  refine U ?_;iterate 2 refine bP ?_
  refine Θ ?_;refine U ?_;iterate 2 refine bP ?_
  refine Θ ?_;refine U ?_;iterate 2 refine bP ?_
  refine Θ ?_;refine T<|aS N ?_;refine aD<|qa ?_;refine T ?_;exact aQ (fF (no (lieP_none (Aa (Hl.1 (by rw[hb0];decide)))) _ _ H YB N))
 |true=>
 refine U ?_;refine U ?_;cases e1 with
 |false=>
  refine U ?_;refine φ ?_;refine U ?_;iterate 2 refine bP ?_
  refine Θ ?_;refine U ?_;iterate 2 refine bP ?_
  refine Θ ?_;refine T<|aS N ?_;refine aD<|qa ?_;refine T ?_;exact aQ (fF (no (lieP_none (Ab (Aa (Hl.1 (by rw[hb1];decide))))) _ _ H YB N))
 |true=>
 refine U ?_;refine φ ?_;refine U ?_;refine U ?_;cases e2 with
 |false=>
  refine U ?_;refine φ ?_;refine U ?_;iterate 2 refine bP ?_
  refine Θ ?_;refine T<|aS N ?_;refine aD<|qa ?_;refine T ?_;exact aQ (fF (no (lieP_none (Ab (Ab (Aa (Hl.1 (by rw[hb2];decide)))))) _ _ H YB N))
 |true=>
 refine U ?_;refine φ ?_;refine U ?_;refine U ?_;cases e3 with
 |false=>refine U ?_;refine φ ?_;refine T<|aS N ?_;refine aD<|qa ?_;refine T ?_;exact aQ (fF (no (lieP_none (Ab (Ab (Ab (Hl.1 (by rw[hb3];decide)))))) _ _ H YB N))
 |true=>
 refine U ?_;refine φ ?_;refine T<|aO N ?_;refine aR ?_;obtain⟨i0,g0⟩:=Gb.1 hb0;obtain⟨i1,g1⟩:=Gb.1 hb1;obtain⟨i2,g2⟩:=Gb.1 hb2;obtain⟨l,g3⟩:=Gb.1 hb3;obtain rfl:=hn0 i0 g0;obtain rfl:=hn1 i1 g1;obtain rfl:=hn2 i2 g2;have y0:=vY g0;have y1:=vY g1;have y2:=vY g2;obtain⟨ua,uc,rfl,hus,huc⟩:=iT (show Ω _ _ _ _ _ _ _ from (hu l g3).o0);have hll:=J8 g3;replace H:=H.drew;have hus:Sr w4.drew ua l.length uc (iF (gL l)):=hus;have hS:Its [ν 69 b 313 313 (jN (nQ s.c.fr D c.rd c.bad (κ c.lo c.LL.length c.lc)) p v)] w4.drew:=Aj H.o0 (Ak _);refine aH<|fI (S:=Its [ν 69 b 313 313 (jN (nQ s.c.fr D c.rd c.bad (κ c.lo c.LL.length c.lc)) p v)]) (.mv 0 (.mv 1 (.mv 2 (.mv 3 (.mv 4 (.rd 5 (.mv 6 (.mv 7 (.mv 8 (.mv 9 (.rd 10 (.mv 11 (.mv 12 (.go 13 (.mv 14 (.mv 15 (.mv 16 (.mv 17 (.mv 18 .fin))))))))))))))))))) [] Yl Yl ?_;iterate 5 refine qj ?_
 refine Yr M hS (λ_ H=>aT _ _ M OneK.out N H.v0 R (aBx _ _ _ _ _ _ _)) ?_;iterate 4 refine qj ?_
 refine Yr M hS (λ_ H=>aT _ _ M OneK.out N H.v0 R (aPg _ _ _ _ _ _ _)) ?_;refine qj ?_;refine dC M M (λ_ _ _ h=>h) Yw (λw=>rH _ _ _ _ M N N N N w) ?_;have rK:ο ((i2:O):Y):=by unfold ο;omega
 have rF:ο c.bad:=by rw[<-eb];exact hO.ip.bad
 have rR:ο s.c.fr:=hO.cl.1;refine j_c (FY (i2:O) c.bad s.c.fr ua l.length uc (gL l) w4.drew rK rF rR (rV g3) R huc hus) ?_;rintro e w5 ⟨v5,rfl,o5,k5⟩;obtain⟨a5,c5,rfl,hc5⟩:=dU o5;refine⟨_,M,λ_ _=>Aj (H.call k5).o0 (Ak _),?_⟩;have hsz:=H.size;have ea:=UT (s:=s) R g0 g1 g2 g3;rw[eb] at ea;replace H:=H.add k5 (QV w0.heap.size ⟨⟨(i0:O),(i1:O),rT (i2:O) c.bad s.c.fr l.length,enS (i2:O) c.bad s.c.fr l.length (gL l)⟩,a5,c5⟩) (cO o5 hsz) (λj e=>(o5.lt j e).1);iterate 5 refine qj ?_
 refine gM<|aH<|aD<|qa ?_;by_cases hE:wrongM (i2:O) c.bad s.c.fr l.length=0
 .refine Z (xW (b:=false) _ _ M N N (Xf (by rw[hE];decide)) _) ?_;refine T<|aO N ?_;refine aR<|aD ?_;rw[γ hE] at ea;have eL:rT (i2:O) c.bad s.c.fr l.length=12+8*l.length:=by unfold rT;rw[γ hE]
  have hl24:=(oI hE).2.2.2.2.2.2;iterate 5 refine U ?_
  refine Z (aT _ _ M OneK.out N H.v1 R (aEv _ _ _ _ _ _ _)) ?_;iterate 3 refine U ?_
  refine Z (TA _ _ _ M N N N _) ?_;refine bI M Yw (λK hK=>LH SlcK.out ManyK.out ZerK.out Yc Yc M N (λV8 m8 k8 z8=>hK _ _ ?_));have hsz8:=H.size;replace H:=H.call k8;refine OE (bytes:=40) H.a4 (zU (EL (B:=w0.heap.size) (F:=QW) (x:=⟨⟨(i0:O),(i1:O),rT (i2:O) c.bad s.c.fr l.length,enS (i2:O) c.bad s.c.fr l.length (gL l)⟩,a5,c5⟩) m8 R)) (KZ (λx _=>KS _ _ _ _ _)) Ym R ?_;clear H;intro v9 V9 H;have hr9:Ω _ _ _ _ _ _ _:=H.o4;obtain⟨a9,c9,rfl,hc9⟩:=dU hr9;iterate 3 refine U ?_
  refine kX H.a1 (q:=0+297+13) (u:=κ a9 (c.LL.length+1) c9) (g':=jN (nQ s.c.fr D c.rd c.bad (κ a9 (c.LL.length+1) c9)) p v) (JG (q:=13) R (zR _ _ _ _)) ?_;clear H;intro w10 H z10;refine T<|aD<|qa ?_;refine T<|aQ (aN YB (bS rfl N) ⟨by rw[ea];rfl,?_⟩);rw[ea];obtain⟨x,hx⟩:∃x:Lj,x=⟨⟨(i0:O),(i1:O),rT (i2:O) c.bad s.c.fr l.length,enS (i2:O) c.bad s.c.fr l.length (gL l)⟩,a5,c5⟩:=⟨_,rfl⟩;rw[<-hx] at H;have eN:(c.LL++[x]).length=c.LL.length+1:=Ag;have ex:Li.x { c with LL:=c.LL++[x],lo:=a9,lc:=c9 }={ s.x with ly:=s.x.ly++[⟨(i0:O),(i1:O),12+8*l.length,enS (i2:O) c.bad s.c.fr l.length (gL l)⟩] }:=by rw[<-hO.x];unfold Li.x;dsimp only;rw[Cb,hx,eL];rfl
  refine⟨D,{ c with LL:=c.LL++[x],lo:=a9,lc:=c9 },p,v,{ nd:=hO.nd,x:=ex,cl:=hO.cl,ip:=⟨hO.ip.rd,hO.ip.bad,?_⟩,bad:=hO.bad,ly:=?_,lc:=by rw[eN];exact hc9,by_:=?_,fr:=hO.fr },hp,?_⟩
  .intro y hy i;rcases De.1 hy with hy|hy
   .exact hO.ip.g y hy i
   rw[Ct.1 hy];exact PY _ _ _ _ _ i
  .show (s.x.ly++[_]).length<=400;rw[Ag,el];show c.LL.length+1<=400;omega
  .intro d hd;rcases De.1 hd with hd|hd
   .exact hO.by_ d hd
   rw[Ct.1 hd,hx];show rT _ _ _ _<=_;omega
  have H2:=(aAZ (f:=QV w0.heap.size) (c:=x) H.f5.f1).b4;rw[<-KY, <-eN] at H2;exact H2
 .refine Z (xW (b:=true) _ _ M N N (Xt hE) _) ?_;refine T<|aS N ?_;refine aD<|qa ?_;refine T ?_;exact aQ (fF (no (ea.trans (ε hE)) _ _ H.tl YB N))
variable{u:O}
theorem zJ(h:u<16):oK u=[jU u]:=by rw[oK,dif_pos h]
theorem IL(h:16<=u):oK u=oK (u/16)++[jU (u%16)]:=by rw[oK,dif_neg R]
theorem NK:∀(k u:O),u<16^(k+1)->(oK u).length<=k+1
 |0,u,h=>by rw[zJ (by simpa using h)];exact Xr _
 |k+1,u,h=>by
  by_cases c:u<16
  .rw[zJ c];show 1<=_;omega
  rw[IL R,Ag];have:=NK k (u/16) (by rw[Ia R];rw[Cg] at h;exact h);show _+1<=_;omega
section
variable {f:ι->Value} {o:χ}
theorem aIl(x y:ι)(ho:o.op=.binOp .and 3 x y 3)(hx:f x=.int .i64 16)(hy:f y=.int .i64 (16-1))(w:ζ):(δ f o).run β w=.ok (.value (.int .i64 0)) w:=by unfold δ;rw[ho];dsimp only;rw[hx,hy];kernel_rfl
theorem aPv(x y:ι)(ho:o.op=.binOp .eql 83 x y 83)(hx:f x=.int .u64 16)(hy:f y=.int .u64 0)(w:ζ):(δ f o).run β w=.ok (.value (.bool false)) w:=by unfold δ;rw[ho];dsimp only;rw[hx,hy];kernel_rfl
theorem aPw(x:ι)(ho:o.op=.unOp .neg 83 x)(hx:f x=.int .u64 16)(w:ζ):(δ f o).run β w=.ok (.value (.int .u64 18446744073709551600)) w:=by unfold δ;rw[ho];dsimp only;rw[hx];kernel_rfl
theorem aPx(x y:ι)(ho:o.op=.binOp .and 83 x y 83)(hx:f x=.int .u64 16)(hy:f y=.int .u64 18446744073709551600)(w:ζ):(δ f o).run β w=.ok (.value (.int .u64 16)) w:=by unfold δ;rw[ho];dsimp only;rw[hx,hy];kernel_rfl
theorem aPy(x y:ι)(ho:o.op=.binOp .mul 83 x y 83)(hx:f x=.int .u64 16)(hy:f y=.int .u64 285870213051353865)(w:ζ):(δ f o).run β w=.ok (.value (.int .u64 4573923408821661840)) w:=by unfold δ;rw[ho];dsimp only;rw[hx,hy];kernel_rfl
theorem aPz(x y:ι)(ho:o.op=.binOp .shr 83 x y 86)(hx:f x=.int .u64 4573923408821661840)(hy:f y=.int .u64 58)(w:ζ):(δ f o).run β w=.ok (.value (.int .u64 15)) w:=by unfold δ;rw[ho];dsimp only;rw[hx,hy];kernel_rfl
theorem aPB(x:ι)(ho:o.op=.convert 5 3 x)(hx:f x=.int .u8 4)(w:ζ):(δ f o).run β w=.ok (.value (.int .i64 4)) w:=by unfold δ;rw[ho];dsimp only;rw[hx];kernel_rfl
theorem aPA(y:ι)(ho:o.op=.indexAddr 282 (.global 5) y)(hg:f (.global 5)=.pointer (V ⟨5,0,none⟩))(hy:f y=.int .u64 15)(w:ζ):(δ f o).run β w=.ok (.value (.pointer (V ⟨5,15,none⟩))) w:=by unfold δ;rw[ho];dsimp only;rw[hg,hy];kernel_rfl
end
theorem aDd(w:ζ):υ β 177 #[.int .i64 16] w λe w'=>e=.returned (.bool true)/\Below w.heap.size w w':=by
 refine bC Tryz.func177 M 8 M Yd (λA hs hd hb=>?_);have b0:A.eval (.tmp 0)=η μ 16:=hb 0 _ M;clear hb;have H:=Bl w;refine aD (aG ?_);refine U ?_;refine T<|aD ?_;iterate 3 refine U ?_
 refine Z (aIl _ _ M N N _) ?_;refine Z (bK (b:=true) _ _ M N N M _) ?_;refine U ?_;refine T ?_;exact aQ (aN YB (bS M N) ⟨M,H.bel⟩)
theorem aMj(w:ζ)(hT:w.cell? ⟨5,15,none⟩=V (.int .u8 4)):υ β 216 #[.int .u64 16] w λe w'=>e=.returned (.int .i64 4)/\Below w.heap.size w w':=by
 refine bC Tryz.func216 M 14 M Yd (λA hs hd hb=>?_);have b0:A.eval (.tmp 0)=η .u64 16:=hb 0 _ M;clear hb;have H:=Bl w;refine aD (aG ?_);refine U ?_;refine T<|aH<|aD<|qa ?_;refine Z (aPv _ _ M N N _) ?_;refine T<|aO N ?_;refine aR<|aD ?_;iterate 2 refine U ?_
 refine Z (aPw _ M N _) ?_;refine Z (aPx _ _ M N N _) ?_;refine Z (aPy _ _ M N N _) ?_;refine Z (aPz _ _ M N N _) ?_;refine Z (aPA _ M M N _) ?_;refine Z (gP (v:=η .u8 4) OneK.out hT M N) ?_;refine Z (aPB _ M N _) ?_;refine U ?_;refine T ?_;exact aQ (aN YB (bS M N) ⟨M,H.bel⟩)
theorem aSG(w:ζ)(hT:w.cell? ⟨5,15,none⟩=V (.int .u8 4)):υ β 178 #[.int .u64 16] w λe w'=>e=.returned (.int .i64 4)/\Below w.heap.size w w':=by refine bC Tryz.func178 rfl 8 rfl Yd (λA hs hd hb=>?_);have b0:A.eval (.tmp 0)=η .u64 16:=hb 0 _ M;clear hb;refine aD (aG ?_);refine U ?_;refine T<|aH<|aO N ?_;refine aR<|aD<|qa ?_;refine π (aMj w hT) ?_;rintro e w1 ⟨rfl,k1⟩;refine⟨_,M,?_⟩;refine U ?_;refine T ?_;exact aQ (aN YB (bS M N) ⟨M,k1⟩)
section
variable {f:ι->Value} {o:χ}
theorem aFO{b:Bool}(x y:ι)(ho:o.op=.binOp .geq 83 x y 83){u v:Y}(hx:f x=.int .u64 u)(hy:f y=.int .u64 v)(hb:decide (v<=u)=b)(w:ζ):(δ f o).run β w=.ok (.value (.bool b)) w:=by subst hb;unfold δ;rw[ho];dsimp only;rw[hx,hy];go_simp
theorem aIN(x y:ι)(ho:o.op=.binOp .shr 83 x y 86)(hx:f x=.int .u64 (u:Y))(hy:f y=.int .u64 4)(w:ζ):(δ f o).run β w=.ok (.value (.int .u64 ((u/16:O):Y))) w:=Yjq
theorem aLo(x y:ι)(ho:o.op=.index 9 x y){l:θ UInt8}{k:O}(hx:f x=.string ⟨l.toArray⟩)(hy:f y=.int .u64 (k:Y))(hk:k<l.length)(w:ζ):(δ f o).run β w=.ok (.value (.int .u8 (l[k].toNat:Y))) w:=by
 unfold δ;rw[ho];dsimp only;rw[hx,hy];have:(Instr.index 9 (.string ⟨l.toArray⟩) (η .u64 (k:Y))).run β w=.ok (η .u8 (l[k].toNat:Y)) w:=by rw[run_index_string _ _ _ _ _ Ev,dif_pos ⟨R,by show (k:Y)<((l.toArray.size:O):Y);rw[Co];omega⟩];rfl
 rw[Aq,this];rfl
theorem aFM(x y:ι)(ho:o.op=.binOp .and 86 x y 86)(hx:f x=.int .u64 (u:Y))(hy:f y=.int .u64 15)(hu:u<18446744073709551616)(w:ζ):(δ f o).run β w=.ok (.value (.int .u64 ((u%16:O):Y))) w:=by have h:=bits_and_u64_nat u 15 hu R;rw[show u &&& 15=u%16 from Mj u 4] at h;unfold δ;rw[ho];dsimp only;rw[hx,hy];go_simp;exact h
end
theorem aOp{d:O}(h:d<16)(l:θ UInt8)(hl:l.take 16=[48,49,50,51,52,53,54,55,56,57,97,98,99,100,101,102]):l[d]?=V (jU d):=by
 have e:l[d]?=(l.take 16)[d]?:=by rw[Ie,γ h]
 rw[e,hl]
 match d,h with
 |0,_=>rfl
 |1,_=>rfl
 |2,_=>rfl
 |3,_=>rfl
 |4,_=>rfl
 |5,_=>rfl
 |6,_=>rfl
 |7,_=>rfl
 |8,_=>rfl
 |9,_=>rfl
 |10,_=>rfl
 |11,_=>rfl
 |12,_=>rfl
 |13,_=>rfl
 |14,_=>rfl
 |15,_=>rfl
 |n+16,h=>exact ρ h R
instance iDrvH3_1:ZerK β 222 65 (λ_=>.int .u8 0):=⟨λw=>Yl⟩
instance iDrvH3_3:ArrK β 222 65 5:=⟨Tryz.underlying222⟩
def Y8(l:θ UInt8)(j:O):Value:=if j<65-l.length then η .u8 0 else η .u8 ((l.getD (j-(65-l.length)) 0).toNat:O)
variable{l:θ UInt8}
theorem aAR(d:UInt8)(h:l.length<65):∀j,j<65->Λ (Y8 l) (64-l.length) (.int .u8 (d.toNat:O)) j=Y8 (d::l) j:=λj hj=>by
 unfold Λ Y8;rw[Ai];by_cases e:j=64-l.length
 .rw[γ e,ε R,show j-(65-(l.length+1))=0 by omega];rfl
 rw[ε e];by_cases c:j<64-l.length
 .rw[γ R,γ R]
 rw[ε R,ε R,show j-(65-(l.length+1))=(j-(65-l.length))+1 by omega];rfl
variable{k:O}
theorem aOq(h:l.length<=65)(hk:k<l.length):Y8 l (65-l.length+k)=.int .u8 (l[k].toNat:O):=by unfold Y8;rw[ε R,show 65-l.length+k-(65-l.length)=k by omega,Bh,Bf hk];rfl
def ZJ:θ UInt8:=[48,49,50,51,52,53,54,55,56,57,97,98,99,100,101,102,103,104,105,106,107,108,109,110,111,112,113,114,115,116,117,118,119,120,121,122]
section
variable {f:ι->Value} {o:χ}
theorem aEB(x y:ι)(ho:o.op=.index 9 x y)(hx:f x=.string ⟨ZJ.toArray⟩)(hy:f y=.int .u64 (k:Y))(hk:k<16)(w:ζ):(δ f o).run β w=.ok (.value (.int .u8 ((jU k).toNat:O))) w:=by
 have h36:k<ZJ.length:=by show k<36;omega
 have e:ZJ[k]=jU k:=by have:=aOp hk ZJ M;rw[Bf h36] at this;exact Dp this
 rw[aLo x y ho hx hy h36 w,e]
theorem aIu(x y:ι)(ho:o.op=.slice 222 x (V y) none none){z:Y}(hx:f x=.pointer (V ⟨b,0,none⟩))(hy:f y=.int .i64 z)(hz:z=(i:Y))(hi:i<65)(w:ζ):(δ f o).run β w=.ok (.value (.slice (V ⟨b,i,none⟩) (65-i) (65-i))) w:=by subst hz;have hi2:(i:Y)<=65:=R;have hne:¬65=i:=R;unfold δ;rw[ho];simp only[Cc,Dx];rw[hx,hy];go_simp
theorem aEA(x:ι)(ho:o.op=.convert 65 9 x){c:O}(hx:f x=.slice (V ⟨b,i,none⟩) l.length c)(hr:∀k (hk:k<l.length),w.cell? ⟨b,i+k,none⟩=V (.int .u8 (l[k].toNat:O))):(δ f o).run β w=.ok (.value (tV l)) w:=by have e:=run_convert_bytes_back w 65 9 5 ⟨b,i,none⟩ c l Cz Hq Ev (λk hk=>by rw[kC];exact hr k hk);unfold δ;rw[ho];dsimp only;rw[hx];go_simp
theorem aBP(x:ι)(ho:o.op=.convert 3 86 x)(hx:f x=.int .i64 16)(w:ζ):(δ f o).run β w=.ok (.value (.int .u64 16)) w:=by unfold δ;rw[ho];dsimp only;rw[hx];kernel_rfl
theorem aLl(x:ι)(ho:o.op=.convert 3 86 x)(hx:f x=.int .i64 4)(w:ζ):(δ f o).run β w=.ok (.value (.int .u64 4)) w:=by unfold δ;rw[ho];dsimp only;rw[hx];kernel_rfl
theorem aLm(x:ι)(ho:o.op=.convert 3 83 x)(hx:f x=.int .i64 16)(w:ζ):(δ f o).run β w=.ok (.value (.int .u64 16)) w:=by unfold δ;rw[ho];dsimp only;rw[hx];kernel_rfl
theorem aLn(x y:ι)(ho:o.op=.binOp .sub 86 x y 86)(hx:f x=.int .u64 16)(hy:f y=.int .u64 1)(w:ζ):(δ f o).run β w=.ok (.value (.int .u64 15)) w:=by unfold δ;rw[ho];dsimp only;rw[hx,hy];kernel_rfl
end
variable{Q:Exit->Act->ζ->Prop}
theorem I7{P:Program}{J:Act->ζ->Prop}{ops:Array χ}{a:Act}{id:O}(h:J a w):á P ops (Exit.inBlock id (Exit.then J Q)) [] a w:=⟨wpList_nil h⟩
theorem aCW(n:O)(hn:n<18446744073709551616)(w:ζ)(hT:w.cell? ⟨5,15,none⟩=V (.int .u8 4)):υ β 118 #[.slice none 0 0,.int .u64 (n:Y),.int .i64 16,.bool false,.bool false] w λe w'=>e=.returned (.tuple #[.slice none 0 0,tV (oK n)])/\Below w.heap.size w w':=by
 refine bC Tryz.func118 M 102 M Yd (λA hs hd hb=>?_);have b0:A.eval (.tmp 0)=κ none 0 0:=hb 0 _ M;have b1:A.eval (.tmp 1)=η .u64 (n:Y):=hb 1 _ M;have b2:A.eval (.tmp 2)=η μ 16:=hb 2 _ M;have b3:A.eval (.tmp 3)=ξ false:=hb 3 _ M;have b4:A.eval (.tmp 4)=ξ false:=hb 4 _ M;clear hb;have H:=Bl w;refine aD (aG ?_);iterate 2 refine U ?_
 refine T<|aH<|aD<|qa ?_;refine Z (dH (b:=false) _ _ M N N Yc _) ?_;iterate 2 refine U ?_
 refine Z (bK (b:=false) _ _ M N N Yc _) ?_;refine φ ?_;iterate 2 refine U ?_
 refine Z (bW (b:=false) _ _ M N N Yc _) ?_;refine φ ?_;refine T<|aO N ?_;refine aR<|aD<|gQ H ?_;clear H;intro w1 H z1;replace H:Cx w w1 [ν 222 w.heap.size 65 65 (Y8 [])]:=H.wk (λm=>Vh.congr m (λj hj=>by unfold Y8;rw[γ (by simpa using hj)])) (λ_ h=>h);refine T<|aD<|qa ?_;refine T<|aH<|aD<|qa ?_;refine T<|aO N ?_;refine aR<|aH<|aD<|qa ?_;refine π (aDd w1) ?_;rintro e w2 ⟨rfl,k2⟩;replace H:=H.call k2;refine⟨_,M,?_⟩;refine T<|aS N ?_;refine aD<|qa ?_;refine Z (aBP _ M N _) ?_;refine π (aSG w2 (aP hT H.bel)) ?_;rintro e w3 ⟨rfl,k3⟩;replace H:=H.call k3;refine⟨_,M,?_⟩;refine Z (aLl _ M N _) ?_;refine U ?_;refine T<|aD<|qa ?_;refine Z (aLm _ M N _) ?_;refine U ?_;refine T<|aD<|qa ?_;refine Z (aBP _ M N _) ?_;refine Z (aLn _ _ M N N _) ?_;refine U ?_;refine T<|aH<|aJ ?_;have hlen:=NK 15 n (by rw[show (16:O)^(15+1)=18446744073709551616 by decide];exact hn);refine bR (λr A W=>∃(u:O) (l:θ UInt8),u<=r/\u<18446744073709551616/\oK n=oK u++l/\A.tmps.size=102/\A.defers=[]/\A.eval (.tmp 1)=η .u64 (u:Y)/\A.eval (.tmp 3)=ξ false/\A.eval (.tmp 4)=ξ false/\A.eval (.tmp 10)=κ none 0 0/\A.eval (.tmp 12)=τ (V ⟨w.heap.size,0,none⟩)/\A.eval (.tmp 13)=η μ (65-(l.length:Y))/\A.eval (.tmp 14)=η .u64 4/\A.eval (.tmp 15)=η .u64 16/\A.eval (.tmp 16)=η .u64 15/\Cx w W [ν 222 w.heap.size 65 65 (Y8 l)]) n
  ⟨n,[],Xr _,hn,(Be _).symm,YA,YB,N,N,N,N,N,N,N,N,N,H⟩ (λr B W hI=>?_)
 clear b0 b1 b2 b3 b4 hs hd H;obtain⟨u,l,hu,hu2,eL,hs,hd,b1,b3,b4,b10,b12,b13,b14,b15,b16,H⟩:=hI;have hne:1<=(oK u).length:=by
  rw[oK];split
  .exact Xr _
  rw[Ag];show 1<=_+1;omega
 have hll:l.length<=15:=by have:=ã List.length eL;rw[Ag] at this;omega
 refine aH<|aD (aG ?_);iterate 2 refine U ?_
 refine Z (aFO _ _ M N N M _) ?_;refine T<|fB (λhc=>?_) (λhc=>?_)
 .have h16:16<=u:=by have:=Xu hc;omega
  refine aR<|aJ<|aD ?_;iterate 3 refine U ?_
  refine T<|aD ?_;iterate 3 refine U ?_
  refine Z (aFM _ _ M N N hu2 _) ?_;refine Z (aEB _ _ M M N R _) ?_;refine Z (bB (i:=64-l.length) _ _ _ _ M ArrK.out SizK.out N N R R _) ?_;refine kX H.a0 (q:=0+(64-l.length)*1) (u:=η .u8 ((jU (u%16)).toNat:O)) (g':=Y8 (jU (u%16)::l)) (by rw[show 0+(64-l.length)*1=64-l.length by omega];exact aAR _ R) ?_;clear H;intro w4 H z4;refine T<|aI ?_;iterate 2 refine U ?_
  refine Z (aIN _ _ M N N _) ?_;refine U ?_;exact I7 ⟨u/16,R,u/16,jU (u%16)::l,Xr _,R,by rw[eL,IL h16,Ce];rfl,YA,YB,N,N,N,N,N,Ae N (by rw[Ai];congr 1;omega),N,N,N,H⟩
 have h16:u<16:=by have:=Xg hc;omega
 refine bL (dQ ?_);refine aD ?_;iterate 3 refine U ?_
 refine T<|aI ?_;iterate 2 refine U ?_
 refine Z (aEB _ _ M M N h16 _) ?_;refine Z (bB (i:=64-l.length) _ _ _ _ M ArrK.out SizK.out N N R R _) ?_;refine kX H.a0 (q:=0+(64-l.length)*1) (u:=η .u8 ((jU u).toNat:O)) (g':=Y8 (jU u::l)) (by rw[show 0+(64-l.length)*1=64-l.length by omega];exact aAR _ R) ?_;clear H;intro w4 H z4;have eL2:oK n=jU u::l:=by rw[eL,zJ h16];rfl
 refine T<|aH<|aD<|qa ?_;refine T<|aO N ?_;refine aR<|aH<|aD<|qa ?_;refine T<|aO N ?_;refine aR<|aD<|qa ?_;refine Z (aIu (i:=64-l.length) _ _ M N N R R _) ?_;refine Z (aEA (l:=jU u::l) _ M (Ae N (by rw[Ai,show 65-(64-l.length)=l.length+1 by omega])) (λk hk=>by have:=H.v0.cell (i:=64-l.length+k) (by rw[Ai] at hk;omega);rw[this, <-aOq (by rw[Ai];omega) hk,Ai,show 65-(l.length+1)=64-l.length by omega])) ?_;refine U ?_;refine T ?_;rw[<-eL2];exact aQ (aN YB (iP M N N) ⟨M,H.bel⟩)
section
variable {f:ι->Value} {o:χ}
variable{n:O}
theorem aPr(x:ι)(ho:o.op=.convert 2 83 x)(hx:f x=.int .i64 (n:Y))(hn:n<9223372036854775808)(w:ζ):(δ f o).run β w=.ok (.value (.int .u64 (n:Y))) w:=by unfold δ;rw[ho];dsimp only;rw[hx];go_simp;rw[Eb];omega
theorem aLy(x y:ι)(ho:o.op=.binOp .lss 2 x y 2)(hx:f x=.int .i64 (n:Y))(hy:f y=.int .i64 0)(w:ζ):(δ f o).run β w=.ok (.value (.bool false)) w:=Yjq
end
theorem aJX(n:O)(hn:n<9223372036854775808)(w:ζ)(hT:w.cell? ⟨5,15,none⟩=V (.int .u8 4)):υ β 85 #[.int .i64 (n:Y),.int .i64 16] w λe w'=>e=.returned (tV (oK n))/\Below w.heap.size w w':=by
 refine bC Tryz.func85 M 54 M Yd (λA hs hd hb=>?_);have b0:A.eval (.tmp 0)=η μ (n:Y):=hb 0 _ M;have b1:A.eval (.tmp 1)=η μ 16:=hb 1 _ M;clear hb;refine aD (aG ?_);refine U ?_;refine T<|aH<|aD<|qa ?_;refine Z (bK (b:=false) _ _ M N N Yc _) ?_;refine T<|aO N ?_;refine aR<|aD<|qa ?_;refine Z (aPr _ M N hn _) ?_;iterate 2 refine U ?_
 refine Z (aLy _ _ M N N _) ?_;refine bI M Yw (λK hK=>pY _ _ _ _ _ _ _ _ M N N N N N (by go_simp) (aCW n R w hT) ?_);rintro e w1 ⟨rfl,k1⟩;refine⟨_,M,hK _ _ ?_⟩;clear hK K;iterate 5 refine U ?_
 refine T<|aD ?_;iterate 2 refine U ?_
 refine T ?_;exact aQ (aN YB (bS M N) ⟨M,k1⟩)
theorem aFg(n:O)(hn:n<9223372036854775808)(w:ζ)(hT:w.cell? ⟨5,15,none⟩=V (.int .u8 4)):υ β 145 #[.int .i64 (n:Y),.int .i64 16] w λe w'=>e=.returned (tV (oK n))/\Below w.heap.size w w':=by
 refine bC Tryz.func145 M 8 M Yd (λA hs hd hb=>?_);have b0:A.eval (.tmp 0)=η μ (n:Y):=hb 0 _ M;have b1:A.eval (.tmp 1)=η μ 16:=hb 1 _ M;clear hb;refine aD (aG ?_);refine U ?_;refine T<|aD ?_;iterate 2 refine U ?_
 refine π (aJX n hn w hT) ?_;rintro e w1 ⟨rfl,k1⟩;refine⟨_,M,?_⟩;refine U ?_;refine T ?_;exact aQ (aN YB (bS M N) ⟨M,k1⟩)
theorem zL (n : Int) (hn : R64 n) (w : World) (htab : Lib.TabIs Tryz.prog w "internal/strconv.uint64pow10" .u64 Lib.pow10Tab) :
  υ β 17 #[η μ n] w λe w'=>e=.returned (tV (itoa n))/\Below w.heap.size w w':=
 (Tryz.strconv_Itoa n hn.1 hn.2 w htab).mono (λe w' ⟨h1,k,os,h2⟩=>⟨h1,by rw[h2];exact Lib.below_grow w.heap.size w (Xr _) k os⟩)
theorem aPQ(m:O):∃l,TextOf m l:=by
 by_cases h0:m%4294967296=0
 .exact⟨_,Aa ⟨h0,M⟩⟩
 have hz:à (m%4294967296) 32=0:=by unfold à;rw[show (10:O)^32=23283064365386962890625*4294967296 by decide, <-Cu];exact Nat.mul_mod_left _ _
 have h1:à (m%4294967296) 0≠0:=by unfold à;rw[He,Cs,Nat.mod_mod];exact h0
 have:∀k,k<=32->à (m%4294967296) k=0->∃i,i<k/\à (m%4294967296) i≠0/\à (m%4294967296) (i+1)=0:=by
  intro k;induction k with
  |zero=>intro _ h;exact ρ h h1
  |succ k ih=>
   intro hk h;by_cases c:à (m%4294967296) k=0
   .obtain⟨i,hi,h2⟩:=ih R c;exact⟨i,R,h2⟩
   exact⟨k,R,c,h⟩
 obtain⟨i,hi,h2,h3⟩:=this 32 (Xr _) hz;exact⟨_,Ab ⟨i,R,h2,h3,M⟩⟩
theorem aPY(a:Y):∃l,TextOf (absZ a).toNat l/\qK a=rD a++l:=by obtain⟨l,h⟩:=aPQ (absZ a).toNat;exact⟨l,h,(VW h).symm⟩
theorem xY{a:Y}(ha:ο a):(qK a).length<=44:=by
 obtain⟨l,h,e⟩:=aPY a;have hab:=jB ha;rw[e,Ag];have h1:(rD a).length<=1:=by unfold rD;split<;>decide
 have hW:(absZ a).toNat/4294967296<=2147483648:=R;have hWd:(decDigits ((absZ a).toNat/4294967296)).length<=10:=by rw[decDigits_length];exact wV Yc R
 rcases h with ⟨_,rfl⟩|⟨i,hi,_,_,rfl⟩
 .omega
 rw[Ag,Ai,pR];omega
section
variable {ops:Array χ} {Q:Exit->Act->ζ->Prop} {A:Act} {L:θ (Nat×Value)} {w0 w:ζ} {rest:θ χ} {o:χ} {d:O} {l:θ It} {x0 x1 x2 x3:ι} {t0 t1 t2 t3:θ UInt8}
theorem aHX(H:Cx w0 w l)(h:∀w',Cx w0 w' (ν 9 w.heap.size 1 1 (jE [t0])::l)->á β ops Q rest (aV A ((d,.slice (V ⟨w.heap.size,0,none⟩) 1 1)::L)) w')(ho:o.op=.buildSlice 59 1 #[(0,x0)]:=by rfl)(h0:(aV A L).eval x0=tV t0:=by exact Qv)(hd:o.dst=V d:=by rfl)(hw:Region.wanted o (å ops (aV A L).tmps)=true:=by exact fE rfl):á β ops Q (o::rest) (aV A L) w:=
 bI hd hw (λ_ hK=>Q7 ho h0 (λw' m k _=>hK _ _ (h w' (H.add k _ m (λj (e:j=_)=>Bq e.symm)))))
theorem aHY(H:Cx w0 w l)(h:∀w',Cx w0 w' (ν 9 w.heap.size 2 2 (jE [t0,t1])::l)->á β ops Q rest (aV A ((d,.slice (V ⟨w.heap.size,0,none⟩) 2 2)::L)) w')(ho:o.op=.buildSlice 59 2 #[(0,x0),(1,x1)]:=by rfl)(h0:(aV A L).eval x0=tV t0:=by exact Qv)(h1:(aV A L).eval x1=tV t1:=by exact Qv)(hd:o.dst=V d:=by rfl)(hw:Region.wanted o (å ops (aV A L).tmps)=true:=by exact fE rfl):á β ops Q (o::rest) (aV A L) w:=
 bI hd hw (λ_ hK=>aMO ho h0 h1 (λw' m k _=>hK _ _ (h w' (H.add k _ m (λj (e:j=_)=>Bq e.symm)))))
theorem aSo(H:Cx w0 w l)(h:∀w',Cx w0 w' (ν 9 w.heap.size 3 3 (jE [t0,t1,t2])::l)->á β ops Q rest (aV A ((d,.slice (V ⟨w.heap.size,0,none⟩) 3 3)::L)) w')(ho:o.op=.buildSlice 59 3 #[(0,x0),(1,x1),(2,x2)]:=by rfl)(h0:(aV A L).eval x0=tV t0:=by exact Qv)(h1:(aV A L).eval x1=tV t1:=by exact Qv)(h2:(aV A L).eval x2=tV t2:=by exact Qv)(hd:o.dst=V d:=by rfl)(hw:Region.wanted o (å ops (aV A L).tmps)=true:=by exact fE rfl):á β ops Q (o::rest) (aV A L) w:=
 bI hd hw (λ_ hK=>aMP ho h0 h1 h2 (λw' m k _=>hK _ _ (h w' (H.add k _ m (λj (e:j=_)=>Bq e.symm)))))
end
structure TabOK (w:ζ):Prop where
 pow : Lib.TabIs Tryz.prog w "internal/strconv.uint64pow10" .u64 Lib.pow10Tab
 bru:w.cell? ⟨5,15,none⟩=V (η .u8 4)
theorem TabOK.bel{w':ζ}(h:TabOK w)(k:Below w.heap.size w w'):TabOK w':=⟨Lib.tabBelow_of_tabIs h.pow _ k,aP h.bru k⟩
theorem TM(a:Y)(ha:ο a)(w:ζ)(hT:TabOK w):υ β 7 #[.int .i64 a] w λe w'=>e=.returned (tV (qK a))/\Below w.heap.size w w':=
 (aMa a ha w hT.pow).mono (λe w' ⟨l,h1,h2,h3⟩=>⟨by rw[h2,VW h1],h3⟩)
theorem nZ{n:Y}(h:ο n):(itoa n).length<=20:=by
 unfold ο at h;have:∀m:O,m<=9223372036854775808->(decDigits m).length<=19:=λm hm=>by rw[decDigits_length];exact wV Yc R
 unfold itoa;split
 .have:=this n.natAbs R;rw[Ai];omega
 have:=this n.toNat R;omega
variable{n:Nd}
theorem KJ(h:â n):∀a,(A8 n a).length<=90*a
 |0=>Xr _
 |a+1=>by have h1:=xY (h.us a);have h2:=xY (h.ax a).X;have ih:=KJ h a;unfold A8;simp only[Ag,Ai,Au];omega
theorem KV(I:O->Bool):∀i,i<=4->(uZ I i).length<=24*i
 |0,_=>Xr _
 |i+1,hi=>by
  have ih:=KV I i R;have h1:=nZ (n:=(i:O)) (by unfold ο;omega);unfold uZ;rw[Ag];split
  .show _+0<=_;omega
  simp only[Ag,Ai,Au];omega
theorem UQ{u:Y}(h:ο u):(oK u.toNat).length<=16:=NK 15 _ (by unfold ο at h;rw[show (16:O)^(15+1)=18446744073709551616 by decide];omega)
theorem aEz(h:â n):(Ξ n).length<=600:=by have h1:=nZ h.id;have h2:=nZ h.fr;have h3:=KJ h 3;have h4:=KV n.rl.I 4 (Xr _);have h5:=UQ h.dg;unfold Ξ;simp only[Ag,Ai,Au];split<;>simp only[Ai,Au]<;>omega
theorem aIk:∀j,j<3->iX n (0+2+j)=.int .i64 (n.us j):=λj hj=>by
 match j,hj with
 |0,_=>rfl
 |1,_=>rfl
 |2,_=>rfl
 |k+3,h=>exact ρ h R
theorem aIj{a:O}(h:a<3):iX n (0+5+a*1)=.int .i64 (n.ax a).X:=by
 match a,h with
 |0,_=>rfl
 |1,_=>rfl
 |2,_=>rfl
 |k+3,h=>exact ρ h R
theorem aIi:∀j,j<4->iX n (0+10+j)=.bool (n.rl.I j):=λj hj=>by
 match j,hj with
 |0,_=>rfl
 |1,_=>rfl
 |2,_=>rfl
 |3,_=>rfl
 |k+4,h=>exact ρ h R
variable{p:Value}
theorem aBJ{h:O->Value}{L:θ It}(l:θ UInt8)(n:Nd)(hn:â n)(hg:0<=n.dg)(H:Cx w0 w (ν 69 b 313 313 (jN h p v)::yF w0.heap.size v l::L))(hp:FZ b p)(hT:TabOK w0)(hl:l.length<=140737488350000):υ β 83 #[.pointer (V ⟨b,0,none⟩),aX (iX n) 0 14] w λe w'=>∃p' v',e=.returned (.tuple #[])/\FZ b p'/\Cx w0 w' (ν 69 b 313 313 (jN h p' v')::yF w0.heap.size v' (l++Ξ n)::L):=by
 have l1:=nZ hn.id;have l2:=nZ hn.fr;have l5:=UQ hn.dg;refine bC Tryz.func83 M 63 M Yd (λA hs hd hb=>?_);have b0:A.eval (.tmp 0)=τ (V ⟨b,0,none⟩):=hb 0 _ M;have b1:A.eval (.tmp 1)=aX (iX n) 0 14:=hb 1 _ M;clear hb;refine aD (aG ?_);refine jO H ?_;clear H;intro w1 H z1;replace H:=H.b2;refine T ?_;replace H:=H.drew;have hS:Its [ν 57 w.heap.size 14 14 (iX n)] w1.drew:=Aj H.o2 (Ak _);refine aH<|fI (S:=Its [ν 57 w.heap.size 14 14 (iX n)]) (.mv 0 (.mv 1 (.rd 2 (.mv 4 (.rd 5 (.go 3 (.go 6 (.go 7 (.go 8 .fin))))))))) [] Yl Yl ?_;iterate 2 refine qj ?_
 refine Yr M hS (λ_ H=>aT (v:=η μ n.id) _ _ M OneK.out N H.v0 R M) ?_;refine qj ?_;refine Yr M hS (λ_ H=>aT (v:=η μ n.fr) _ _ M OneK.out N H.v0 R M) ?_;refine j_c (zL n.id hn.id _ (hT.bel H.bel).pow) ?_;rintro e w2 ⟨rfl,k2⟩;replace H:=H.call k2;refine⟨_,M,λ_ _=>Aj H.o2 (Ak _),?_⟩;refine j_c (zL n.fr hn.fr _ (hT.bel H.bel).pow) ?_;rintro e w3 ⟨rfl,k3⟩;replace H:=H.call k3;refine⟨_,M,λ_ _=>Aj H.o2 (Ak _),?_⟩;refine dA M M Yw (λK hK=>aCt (t0:=[110,111,100,101,32]) (t1:=itoa n.id) (t2:=[32,102,114,97,109,101,32]) (t3:=itoa n.fr) M M N M N ?_);intro w4 m4 k4 z4;replace H:=(H.add k4 (ν _ _ _ _ _) m4 (λj (e:j=_)=>Bq e.symm)).b2;refine hK _ _ (λ_ _=>Aj H.o3 (Ak _)) ?_;clear hK K;refine j_c (rP l [[110,111,100,101,32],itoa n.id,[32,102,114,97,109,101,32],itoa n.fr] 4 H hp (by simp only[En,Em,Ag,Ai,Au];omega) (show 4<=1000 by omega)) ?_;rintro e w5 ⟨p1,v1,rfl,hp1,H1⟩;clear H;refine⟨_,M,λ_ _=>Aj H1.o2 (Ak _),?_⟩;refine gM ?_;obtain⟨m1,em1⟩:∃m,m=l++[[110,111,100,101,32],itoa n.id,[32,102,114,97,109,101,32],itoa n.fr].flatten:=⟨_,rfl⟩;rw[<-em1] at H1;have lm1:m1.length<=l.length+52:=by rw[em1];simp only[En,Em,Ag,Ai,Au];omega
 have H:=H1;clear H1;refine aH<|aD<|qa ?_;refine Z (cZ _ _ M ManyK.out N H.v2 R aIk) ?_;refine U ?_;refine T<|aJ ?_;refine bR (λr A W=>∃(k:O) (p' v':Value),k<=3/\3-k<=r/\A.tmps.size=63/\A.defers=[]/\A.eval (.tmp 0)=τ (V ⟨b,0,none⟩)/\A.eval (.tmp 3)=τ (V ⟨w.heap.size,0,none⟩)/\A.eval (.tmp 18)=aX (λj=>η μ (n.us j)) 0 3/\A.eval (.tmp 19)=η μ (k:O)/\FZ b p'/\Cx w0 W (ν 69 b 313 313 (jN h p' v')::yF w0.heap.size v' (m1++A8 n k)::ν 57 w.heap.size 14 14 (iX n)::L)) 3
  ⟨0,p1,v1,Xz _,R,YA,YB,N,N,N,N,hp1,by rw[show A8 n 0=[] from rfl,Be];exact H⟩ (λr B W hI=>?_)
 clear b0 b1 hs hd H hp1 hp hS;obtain⟨k,p2,v2,hk,hkr,hs,hd,b0,b3,b18,b19,hp,H⟩:=hI;have lk:=KJ hn k;refine aD (aG ?_);refine U ?_;refine T<|aH<|fB (λhc=>?_) (λhc=>?_)
 .have hin:k<3:=by have:=Xu hc;omega
  refine aR<|aH (aJ ?_);refine aD<|qa ?_;refine Z (nG _ _ _ _ M ArrK.out OneK.out N N M hin _) ?_;iterate 2 refine U ?_
  refine T ?_;replace H:=H.drew;have hS:Its [ν 57 w.heap.size 14 14 (iX n)] W.drew:=Aj H.o2 (Ak _);refine fI (S:=Its [ν 57 w.heap.size 14 14 (iX n)]) (.mv 0 (.mv 1 (.mv 3 (.mv 4 (.mv 5 (.rd 6 (.go 2 (.go 7 (.go 8 (.go 9 .fin)))))))))) [] Yl Yl ?_;iterate 4 refine qj ?_
  refine dC M M (λ_ _ _ h=>h) Yw (λw=>bB (i:=k) _ _ _ _ M ArrK.out SizK.out N N M hin w) ?_;refine Yr M hS (λ_ H=>aT (v:=η μ (n.ax k).X) _ _ M OneK.out N H.v0 R (aIj hin)) ?_;refine j_c (TM (n.us k) (hn.us k) _ (hT.bel H.bel)) ?_;rintro e w6 ⟨rfl,k6⟩;replace H:=H.call k6;refine⟨_,M,λ_ _=>Aj H.o2 (Ak _),?_⟩;refine j_c (TM (n.ax k).X (hn.ax k).X _ (hT.bel H.bel)) ?_;rintro e w7 ⟨rfl,k7⟩;replace H:=H.call k7;refine⟨_,M,λ_ _=>Aj H.o2 (Ak _),?_⟩;refine dA M M Yw (λK hK=>aCt (t0:=[32]) (t1:=qK (n.us k)) (t2:=[62]) (t3:=qK (n.ax k).X) M M N M N ?_);intro w8 m8 k8 z8;replace H:=(H.add k8 (ν _ _ _ _ _) m8 (λj (e:j=_)=>Bq e.symm)).b2;refine hK _ _ (λ_ _=>Aj H.o3 (Ak _)) ?_;clear hK K;have t1:=xY (hn.us k);have t2:=xY (hn.ax k).X;refine j_c (rP (m1++A8 n k) [[32],qK (n.us k),[62],qK (n.ax k).X] 4 H hp (by simp only[En,Em,Ag,Ai,Au];omega) (show 4<=1000 by omega)) ?_;rintro e w9 ⟨p3,v3,rfl,hp3,H1⟩;clear H;refine⟨_,M,λ_ _=>Aj H1.o2 (Ak _),?_⟩;refine oC<|aI ?_;repeat refine U ?_
  exact aU ⟨3-(k+1),R,k+1,p3,v3,R,R,YA,YB,N,N,N,Ae N YC,hp3,by rw[show A8 n (k+1)=A8 n k++([32]++qK (n.us k)++[62]++qK (n.ax k).X) from rfl, <-Ce];rw[show [[32],qK (n.us k),[62],qK (n.ax k).X].flatten=[32]++qK (n.us k)++[62]++qK (n.ax k).X by simp] at H1;exact H1⟩
 obtain rfl:k=3:=by have:=Xg hc;omega
 obtain⟨m2,em2⟩:∃m,m=m1++A8 n 3:=⟨_,rfl⟩;have lm2:m2.length<=m1.length+270:=by rw[em2,Ag];omega
 rw[<-em2] at H;refine bL (dQ ?_);refine aD ?_;iterate 2 refine U ?_
 refine Z (aT (v:=η μ ((n.dg.toNat:O):Y)) _ _ M OneK.out N H.v2 R (by rw[Int.toNat_of_nonneg hg];rfl)) ?_;refine π (aFg n.dg.toNat (by have:=hn.dg;unfold ο at this;omega) _ (hT.bel H.bel).bru) ?_;rintro e w6 ⟨rfl,k6⟩;replace H:=H.call k6;refine⟨_,M,?_⟩;refine aHY (t0:=[32]) (t1:=oK n.dg.toNat) H ?_;clear H;intro w7 H;refine π (rP m2 [[32],oK n.dg.toNat] 2 H.b2 hp (by simp only[En,Em,Ag,Ai,Au];omega) (show 2<=1000 by omega)) ?_;rintro e w8 ⟨p3,v3,rfl,hp3,H1⟩;refine⟨_,M,?_⟩;clear H hp p2 v2;have H:=H1;clear H1;obtain⟨m3,em3⟩:∃m,m=m2++[[32],oK n.dg.toNat].flatten:=⟨_,rfl⟩;rw[<-em3] at H;have lm3:m3.length<=m2.length+17:=by rw[em3];simp only[En,Em,Ag,Ai,Au];omega
 refine T<|lS (λA W=>∃(p' v':Value),A.tmps.size=63/\A.defers=[]/\A.eval (.tmp 0)=τ (V ⟨b,0,none⟩)/\A.eval (.tmp 3)=τ (V ⟨w.heap.size,0,none⟩)/\FZ b p'/\Cx w0 W (ν 69 b 313 313 (jN h p' v')::yF w0.heap.size v' (m3++(if n.vS then [] else [32,119,101,97,107]))::ν 57 w.heap.size 14 14 (iX n)::L)) ?_ (λC W2 hI=>?_)
 .refine aD<|qa ?_;cases hv:n.vS with
  |true=>refine Z (aT (v:=ξ true) _ _ rfl OneK.out N H.v2 R (by rw[<-hv];rfl)) ?_;refine U ?_;refine T<|aO N ?_;exact iE ⟨M,p3,v3,YA,YB,N,N,hp3,by rw[γ M,Be];exact H⟩
  |false=>refine Z (aT (v:=ξ false) _ _ rfl OneK.out N H.v2 R (by rw[<-hv];rfl)) ?_;refine U ?_;refine T<|aS N ?_;refine aI<|qa ?_;refine aHX (t0:=[32,119,101,97,107]) H ?_;clear H;intro w9 H;refine π (rP m3 [[32,119,101,97,107]] 1 H.b2 hp3 (by simp only[En,Em,Ag,Ai,Au];omega) (show 1<=1000 by omega)) ?_;rintro e w10 ⟨p4,v4,rfl,hp4,H1⟩;refine⟨_,M,?_⟩;refine kL ⟨M,p4,v4,YA,YB,N,N,hp4,?_⟩;rw[ε Yc];exact H1
 clear H hp3 b0 b3 hs hd b18 b19 p3 v3 hc hkr B;obtain⟨p3,v3,hs,hd,b0,b3,hp3,H⟩:=hI;obtain⟨m4,em4⟩:∃m,m=m3++(if n.vS then [] else [32,119,101,97,107]):=⟨_,rfl⟩;have lm4:m4.length<=m3.length+5:=by rw[em4,Ag];split<;>simp only[Ai,Au]<;>omega
 rw[<-em4] at H;refine aH<|aD (aG ?_);refine U ?_;refine Z (cZ _ _ M ManyK.out N H.v2 R aIi) ?_;refine U ?_;refine T<|aJ ?_;refine bR (λr A W=>∃(k:O) (p' v':Value),k<=4/\4-k<=r/\A.tmps.size=63/\A.defers=[]/\A.eval (.tmp 0)=τ (V ⟨b,0,none⟩)/\A.eval (.tmp 47)=aX (λj=>ξ (n.rl.I j)) 0 4/\A.eval (.tmp 48)=η μ (k:O)/\FZ b p'/\Cx w0 W (ν 69 b 313 313 (jN h p' v')::yF w0.heap.size v' (m4++uZ n.rl.I k)::L)) 4
  ⟨0,p3,v3,Xz _,R,YA,YB,N,N,N,hp3,by rw[show uZ n.rl.I 0=[] from rfl,Be];exact H.f2.tl⟩ (λr B W hI=>?_)
 clear b0 b3 hs hd H hp3;obtain⟨k,p2,v2,hk,hkr,hs,hd,b0,b47,b48,hp,H⟩:=hI;have lk:=KV n.rl.I k hk;refine aD (aG ?_);refine U ?_;refine T<|aH<|fB (λhc=>?_) (λhc=>?_)
 .have hin:k<4:=by have:=Xu hc;omega
  refine aR<|lS (λA W=>∃(p' v':Value),A.tmps.size=63/\A.defers=[]/\A.eval (.tmp 0)=τ (V ⟨b,0,none⟩)/\A.eval (.tmp 47)=aX (λj=>ξ (n.rl.I j)) 0 4/\A.eval (.tmp 48)=η μ (k:O)/\FZ b p'/\Cx w0 W (ν 69 b 313 313 (jN h p' v')::yF w0.heap.size v' (m4++uZ n.rl.I (k+1))::L)) ?_ (λC W2 hI=>?_)
  .refine aJ<|aD<|qa ?_;cases hv:n.rl.I k with
   |true=>
    refine Z ((nG _ _ _ _ M ArrK.out OneK.out N N M hin _).trans (by rw[hv])) ?_;iterate 2 refine U ?_
    refine T<|aD ?_;iterate 2 refine U ?_
    refine T<|aO N ?_;exact iE ⟨M,p2,v2,YA,YB,N,N,N,hp,by rw[show uZ n.rl.I (k+1)=uZ n.rl.I k++(if n.rl.I k then [] else [32,111,117,116]++itoa (k:O)) from rfl,hv,γ M,Be];exact H⟩
   |false=>
    refine Z ((nG _ _ _ _ M ArrK.out OneK.out N N M hin _).trans (by rw[hv])) ?_;iterate 2 refine U ?_
    refine T<|aD ?_;iterate 2 refine U ?_
    refine T<|aS N ?_;refine aI ?_;iterate 2 refine U ?_
    have rk:ο ((k:O):Y):=by unfold ο;omega
    have ik:=nZ rk;refine π (zL (k:O) rk _ (hT.bel H.bel).pow) ?_;rintro e w6 ⟨rfl,k6⟩;replace H:=H.call k6;refine⟨_,M,?_⟩;refine aHY (t0:=[32,111,117,116]) (t1:=itoa (k:O)) H ?_;clear H;intro w7 H;refine π (rP (m4++uZ n.rl.I k) [[32,111,117,116],itoa (k:O)] 2 H.b2 hp (by simp only[En,Em,Ag,Ai,Au];omega) (show 2<=1000 by omega)) ?_;rintro e w8 ⟨p4,v4,rfl,hp4,H1⟩;refine⟨_,M,?_⟩;refine kL ⟨M,p4,v4,YA,YB,N,N,N,hp4,?_⟩;rw[show uZ n.rl.I (k+1)=uZ n.rl.I k++(if n.rl.I k then [] else [32,111,117,116]++itoa (k:O)) from rfl,hv,ε Yc, <-Ce];rw[show [[32,111,117,116],itoa (k:O)].flatten=[32,111,117,116]++itoa (k:O) by simp] at H1;exact H1
  clear b0 b47 b48 hs hd H hp;obtain⟨p4,v4,hs,hd,b0,b47,b48,hp,H⟩:=hI;refine aI (aG ?_);repeat refine U ?_
  exact aU ⟨4-(k+1),R,k+1,p4,v4,R,R,YA,YB,N,N,Ae N YC,hp,H⟩
 obtain rfl:k=4:=by have:=Xg hc;omega
 refine bL (dQ ?_);refine aI<|qa ?_;refine aHX (t0:=[10]) H ?_;clear H;intro w9 H;refine π (rP (m4++uZ n.rl.I 4) [[10]] 1 H.b2 hp (by simp only[En,Em,Ag,Ai,Au];omega) (show 1<=1000 by omega)) ?_;rintro e w10 ⟨p4,v4,rfl,hp4,H1⟩;refine⟨_,M,?_⟩;refine kL (aEw YB (aNj M) ⟨p4,v4,M,hp4,?_⟩);have e:m4++uZ n.rl.I 4++[[10]].flatten=l++Ξ n:=by rw[em4,em3,em2,em1];unfold Ξ;simp only[En,Em,Ce,Be]
 rw[e] at H1;exact H1
theorem aNS(n:Nd)(l:θ Ms):(gW n l).dg=n.dg:=by
 unfold gW;split
 .rfl
 split
 .split<;>rfl
 rfl
theorem aAF{x:Ip}{c:Cl}(hx:IpOK x)(hc:uF c)(hn:n∈frR x c):â n/\0<=n.dg:=by
 unfold frR at hn;split at hn
 .rename_i hE;obtain⟨i,hi,rfl⟩:=Eh.1 hn;unfold IJ at hi;have h1:=List.mem_filter.1 hi;have i4:=Df.1 h1.1;have gi:(i:Y)≠x.bad:=Xu h1.2;refine⟨aHi hx hc i4,?_⟩;unfold wC;rw[ε gi,aNS];have e:=(aTg hE i4 gi).trans (aSY hE i4 gi);show 0<=(ndK x c 5 i).dg;rw[e];unfold dgN;omega
 cases hn
theorem U5:∀{L:θ Nd},(∀n,n∈L->â n)->(L.flatMap Ξ).length<=600*L.length
 |[],_=>Xr _
 |n::L,h=>by have h1:=aEz (h n Ee);have h2:=U5 (L:=L) (λm hm=>h m (Du _ hm));rw[List.flatMap_cons,Ag,Ai,Nat.mul_succ];omega
theorem aKa{t:Pl}(hx:IpOK s.x)(hc:uF s.c)(h:vL s ws=V t):t.o.length<=s.o.length+2400:=by
 unfold vL at h;split at h
 .split at h
  .cases h;show (s.o++(frR s.x s.c).flatMap Ξ).length<=_;rw[Ag];have h1:=U5 (L:=frR s.x s.c) (λn hn=>(aAF hx hc hn).1);have h2:=UM s.x s.c;omega
  cases h
 cases h
theorem aSk:∀j,j<297->jN (nQ fr D rd bad lv) p v (0+0+j)=kZ fr D j:=λj hj=>by unfold jN nQ;rw[γ R,γ R,show 0+0+j=j by omega]
theorem aSl:∀j,j<14->jN (nQ fr D rd bad lv) p v (0+297+j)=jW rd bad lv j:=λj hj=>by unfold jN nQ;rw[γ R,ε R,show 0+297+j-297=j by omega]
theorem fraP_at(h:gY s.x s.c=0):vL s []=V ⟨lC s.x s.c,{ s.x with ly:=[] },s.o++(frR s.x s.c).flatMap Ξ⟩:=by unfold vL;dsimp only;rw[γ h]
theorem aEc(h:gY s.x s.c≠0):vL s []=none:=by unfold vL;dsimp only;rw[ε h]
theorem aCX(hT:TabOK w0)(hP:PlAt w0 w b s)(hsl:s.o.length<=140737488340000)(ws:θ (θ UInt8))(ao:Ψ ω)(cap:O)(hl:ws.length<=1000000):υ β 43 #[.pointer (V ⟨b,0,none⟩),.slice ao ws.length cap] w λe w'=>e=.returned (.bool (vL s ws).isSome)/\PlAt w0 w' b ((vL s ws).getD s):=by
 obtain⟨D,c,p,v,hO,hp,H⟩:=hP;refine bC Tryz.func43 M 46 M Yd (λA hs hd hb=>?_);have b0:A.eval (.tmp 0)=τ (V ⟨b,0,none⟩):=hb 0 _ M;have b1:A.eval (.tmp 1)=κ ao ws.length cap:=hb 1 _ M;clear hb;have no:vL s ws=none->∀A' w',Cx w0 w' (plL w0.heap.size b s.c.fr D c p v s.o)->A'.defers=[]->A'.eval (.tmp 4)=ξ false->bodyPost β Tryz.f43 (λe w'=>e=.returned (ξ (vL s ws).isSome)/\PlAt w0 w' b ((vL s ws).getD s)) .ret A' w':=λe0 A' w' H' hd' h4=>aN hd' (bS M h4) ⟨by rw[e0];rfl,by rw[e0];exact⟨D,c,p,v,hO,hp,H'⟩⟩;refine aD (aG ?_);refine U ?_;refine T<|aH<|aD ?_;iterate 2 refine U ?_
 cases ws with
 |cons x q=>refine Z (dO (b:=true) _ _ rfl N N (Xt (by rw[Ai];omega)) _) ?_;refine T<|aS N ?_;refine aD<|qa ?_;refine T ?_;exact aQ (fF (no M _ _ H YB N))
 |nil=>
 refine Z (dO (b:=false) _ _ M N N Yc _) ?_;refine T<|aO N ?_;refine aR ?_;obtain⟨P1,eP1⟩:∃P1,P1=jN (nQ s.c.fr D c.rd c.bad (κ c.lo c.LL.length c.lc)) p v:=⟨_,rfl⟩;obtain⟨p1,p2,p3,p4⟩:=WQ (x:=c.x) (fr:=s.c.fr) (D:=D) (c:=s.c) rfl hO.nd;rw[hO.x] at p1 p2 p3 p4;obtain⟨rs,ers⟩:∃rs,rs=frR s.x s.c:=⟨_,rfl⟩;rw[<-ers] at p4;have hip:IpOK c.x:=by rw[hO.x];exact hO.ip
 have hcls:uF ⟨s.c.fr,λi=>(D i).1⟩:=⟨hO.cl.1,λi hi=>by show â (D i).1;rw[hO.nd i hi];exact hO.cl.2 i hi⟩;replace H:=H.drew;have hag:∀i,i<4->zX w.drew (D i).1 (D i).2.1 (D i).2.2:=λi hi=>by have ho:Ω _ _ _ _ _ _ _:=H.o2 i hi;obtain⟨a3,c3,e,hs3,_⟩:=iT ho;cases e;exact hs3
 have hj:JRd w.drew c.lo c.LL:=aNb ⟨H.o3,H.o4⟩ (λd hd=>⟨hO.by_ d hd,λi=>hip.g d.y (Eh.2 ⟨d,hd,M⟩) i⟩);have hS:Its [ν 69 b 313 313 (jN (nQ s.c.fr D c.rd c.bad (κ c.lo c.LL.length c.lc)) p v)] w.drew:=Aj H.o0 (Ak _);refine aH<|fI (S:=Its [ν 69 b 313 313 (jN (nQ s.c.fr D c.rd c.bad (κ c.lo c.LL.length c.lc)) p v)]) (.mv 0 (.mv 1 (.mv 2 (.rd 3 (.mv 4 (.mv 5 (.mv 6 (.rd 7 (.two 8 13 (.mv 9 (.mv 10 (.mv 11 (.mv 12 (.go 13 (.go 14 (.mv 15 (.mv 16 .fin)))))))) (.go 8 (.mv 9 (.mv 10 (.mv 11 (.mv 12 (.go 14 (.mv 15 (.mv 16 .fin))))))))))))))))) [14] Yl Yl ?_;iterate 3 refine qj ?_
 refine Yr M hS (λ_ H=>cZ _ _ M ManyK.out N H.v0 R aSk) ?_;iterate 3 refine qj ?_
 refine Yr M hS (λ_ H=>cZ _ _ M ManyK.out N H.v0 R aSl) ?_;refine aSx (r:=.go 14 (.mv 15 (.mv 16 .fin))) (λA W'=>∃(qb:O) (D':O->Nd×Ad) (vr:Value),A.tmps.size=46/\A.defers=[]/\A.eval (.tmp 0)=τ (V ⟨b,0,none⟩)/\A.eval (.tmp 5)=τ (V ⟨qb,0,none⟩)/\A.eval (.tmp 23)=aX (kZ (lC s.x s.c).fr D') 0 297/\A.eval (.tmp 24)=vr/\A.eval (.tmp 25)=η μ (gY s.x s.c)/\(∀i,i<4->(D' i).1=(lC s.x s.c).nd i)/\Cx w0 W' (ν 46 qb 297 297 (tK 0 (λ_=>dS) (λ_=>slV (none,0) 0))::fU w0.heap.size 57 14 vr rs.length (qP iX 14 rs)::oU w0.heap.size D'::plL w0.heap.size b s.c.fr D c p v s.o)) (λA W' hT'=>?_) (λhcut=>?_)
 .clear b0 b1 hs hd H hS hag hj;obtain⟨qb,D',vr,hs,hd,b0,b5,b23,b24,b25,hD',H⟩:=hT';refine BB ?_;refine dK M Yw (λK hK=>aW _ _ _ _ M ManyK.out N N H.v0 R (oN _ _) M (λw6 m6 k6 z6=>hK _ (λh=>ρ h Yc) ?_));replace H:=H.a0.s k6 (m6.congr aZ);iterate 2 refine qj ?_
  refine gM<|aH<|aD<|qa ?_;by_cases hE:gY s.x s.c=0
  .refine Z (xW (b:=false) _ _ M N N (Xf (by rw[hE];decide)) _) ?_;refine T<|aO N ?_;refine aR<|aD ?_;iterate 5 refine U ?_
   refine gH H.a3 (aHU _ _ _ _ _ _ _ _ _) (oN _ _) ?_;clear H;intro w7 H z7;iterate 3 refine U ?_
   refine kX H.a3 (q:=0+297+13) (u:=κ none 0 0) (g':=jN (nQ (lC s.x s.c).fr D' c.rd c.bad (κ none 0 0)) p v) (JG (q:=13) R (zR _ _ _ _)) ?_;clear H;intro w8 H z8;refine T ?_;have ho:Ω _ _ _ _ _ _ _:=H.o1;obtain⟨ra,rc,rfl,hrc⟩:=dU ho;replace H:=H.tl.f2.f3.f1.f3.b2;have hrl:rs.length<=4:=by rw[ers];exact UM _ _
   have hrn:∀n,n∈rs->â n/\0<=n.dg:=λn hn=>aAF hO.ip hO.cl (by rw[<-ers];exact hn);refine aH<|aD ?_;iterate 3 refine U ?_
   refine T<|aJ ?_;refine bR (λr A W=>∃(k:O) (p' v':Value),k<=rs.length/\rs.length-k<=r/\A.tmps.size=46/\A.defers=[]/\A.eval (.tmp 0)=τ (V ⟨b,0,none⟩)/\A.eval (.tmp 36)=κ ra rs.length rc/\A.eval (.tmp 37)=η μ (rs.length:O)/\A.eval (.tmp 38)=η μ (k:O)/\FZ b p'/\Cx w0 W [ν 69 b 313 313 (jN (nQ (lC s.x s.c).fr D' c.rd c.bad (κ none 0 0)) p' v'),yF w0.heap.size v' (s.o++(rs.take k).flatMap Ξ),oU w0.heap.size D',fU w0.heap.size 57 14 (κ ra rs.length rc) rs.length (qP iX 14 rs)]) rs.length
    ⟨0,p,v,Xz _,R,YA,YB,N,N,N,N,hp,by rw[List.take_zero,List.flatMap_nil,Be];exact H.sub (.cons_cons _ (.cons_cons _ (.cons_cons _ (.cons_cons _ (El _)))))⟩ (λr B W hI=>?_)
   clear b0 b5 b23 b24 b25 hs hd H hp;obtain⟨k,p5,v5,hk,hkr,hs,hd,b0,b36,b37,b38,hp,H⟩:=hI;refine aD (aG ?_);refine U ?_;refine T<|aH<|fB (λhc=>?_) (λhc=>?_)
   .have hin:k<rs.length:=by have:=Xu hc;omega
    obtain⟨n,en⟩:∃n,n=rs[k]:=⟨_,rfl⟩;have hk?:rs[k]?=V n:=by rw[Bf hin,en]
    have hmem:n∈rs:=List.mem_of_getElem? hk?;have hrd:Γ iX 14 W ra rs:=VB (F:=iX) (s:=14) H.o3 Yc;obtain⟨rb,ro,rfl,hcell⟩:=hrd R;have hcell:=hcell k n hk?;refine aR<|aH (aJ ?_);refine aD<|qg (dD (i:=k) _ _ _ _ rfl SlcK.out SizK.out N N rfl hin _) ?_;refine Z (nR (g:=iX n) ManyK.out hcell M N) ?_;refine gQ H ?_;clear H;intro w9 H z9;refine gH H.a0 (g':=iX n) aZ (mX _ _) ?_;clear H;intro w10 H z10;refine T<|aI ?_;iterate 2 refine U ?_
    have hlen:(s.o++(rs.take k).flatMap Ξ).length<=140737488350000:=by have h1:=U5 (L:=rs.take k) (λm hm=>(hrn m (List.mem_of_mem_take hm)).1);rw[Ea] at h1;rw[Ag];omega
    refine π (aBJ (s.o++(rs.take k).flatMap Ξ) n (hrn n hmem).1 (hrn n hmem).2 H.tl hp hT hlen) ?_;rintro e w11 ⟨p6,v6,rfl,hp6,H1⟩;refine⟨_,M,?_⟩;refine fK<|aI ?_;repeat refine U ?_
    refine aU ⟨rs.length-(k+1),R,k+1,p6,v6,R,R,YA,YB,N,N,N,Ae N YC,hp6,?_⟩;rw[<-Fw hin,List.flatMap_append, <-Ce,List.flatMap_cons,List.flatMap_nil,Be, <-en];exact H1
   obtain rfl:k=rs.length:=by have:=Xg hc;omega
   rw[Hz] at H;refine bL (dQ ?_);refine aD<|qa ?_;refine T ?_;have hE2:=F7 hE;refine aQ (aN YB (bS M N) ⟨by rw[fraP_at hE];rfl,?_⟩);rw[fraP_at hE];have ex:Li.x { c with LL:=[],lo:=none,lc:=0 }={ s.x with ly:=[] }:=by rw[<-hO.x];rfl
   have efr:(lC s.x s.c).fr=s.c.fr+1:=by unfold lC;rw[γ hE]
   refine⟨D',{ c with LL:=[],lo:=none,lc:=0 },p5,v5,{ nd:=hD',x:=ex,cl:=frC_ok hO.ip hO.cl,ip:=⟨hO.ip.rd,hO.ip.bad,λ_ h=>nomatch h⟩,bad:=hO.bad,ly:=Xz _,lc:=Xr _,by_:=(λ_ h=>nomatch h),fr:=⟨?_,?_⟩ },hp,?_⟩
   .show 0<=(lC s.x s.c).fr;rw[efr];have:=hE2.2.1;omega
   .show (lC s.x s.c).fr<=_;rw[efr];have:=hE2.2.1;omega
   rw[<-ers];exact noLies _ H
  refine Z (xW (b:=true) _ _ M N N (Xt hE) _) ?_;refine T<|aS N ?_;refine aD<|qa ?_;refine T ?_;exact aQ (fF (no (aEc hE) _ _ H.tl.tl.tl YB N))
 .refine KP ?_ ?_
  .refine dA M M Yw (λK hK=>?_);have hsz:=H.size;refine eB _ 10 _ _ _ M N N (by go_simp) (aAH c.x s.c.fr D c.lo c.lc c.LL _ M hip hcls hag hj) ?_;rintro e w5 ⟨D',vr,rfl,hD',G⟩;rw[hO.x,p4] at G;replace H:=H.plus G;refine⟨_,M,hK _ _ (λ_ h=>Aj H.o2 (Ak _)) ?_⟩;clear hK K;refine qj ?_;refine dC M M (λ_ _ _ h=>h) Yw (λw=>pI _ M N w) ?_;refine dC M M (λ_ _ _ h=>h) Yw (λw=>pJ _ M N w) ?_;refine dC M M (λ_ _ _ h=>h) Yw (λw=>pK _ M N w) ?_;refine dA M M Yw (λK hK=>?_);refine kF _ _ M ZerK.out Yd ?_;intro w6 m6 k6 z6;replace H:=H.add k6 (ν _ _ _ _ _) m6 (λj e=>Bq e.symm);refine hK _ _ (λ_ h=>Aj H.o3 (Ak _)) ?_;clear hK K;refine hcut _ _ ⟨_,D',vr,YA,YB,N,N,Ae N (by rw[hO.x,p2]),N,Ae N (by rw[hO.x,p1]),λi hi=>by rw[hO.x] at hD';exact (hD' i hi).trans (p3 i hi),?_⟩;exact (xJ (JB H.f1 hsz).f2 hsz).b2.b1
  refine dA M M Yw (λK hK=>?_);refine kF _ _ M ZerK.out Yd ?_;intro w6 m6 k6 z6;replace H:=H.add k6 (ν _ _ _ _ _) m6 (λj e=>Bq e.symm);refine hK _ _ (λ_ h=>Aj H.o1 (Ak _)) ?_;clear hK K;refine dA M M Yw (λK hK=>?_);have hsz:=H.size;refine eB _ 10 _ _ _ M N N (by go_simp) (aAH c.x s.c.fr D c.lo c.lc c.LL _ M hip hcls (λi hi=>(hag i hi).below k6) (hj.below k6)) ?_;rintro e w5 ⟨D',vr,rfl,hD',G⟩;rw[hO.x,p4] at G;replace H:=H.plus G;refine⟨_,M,hK _ _ (λ_ h=>Aj H.o3 (Ak _)) ?_⟩;clear hK K;refine qj ?_;refine dC M M (λ_ _ _ h=>h) Yw (λw=>pI _ M N w) ?_;refine dC M M (λ_ _ _ h=>h) Yw (λw=>pJ _ M N w) ?_;refine dC M M (λ_ _ _ h=>h) Yw (λw=>pK _ M N w) ?_;refine hcut _ _ ⟨_,D',vr,YA,YB,N,N,Ae N (by rw[hO.x,p2]),N,Ae N (by rw[hO.x,p1]),λi hi=>by rw[hO.x] at hD';exact (hD' i hi).trans (p3 i hi),?_⟩;exact ((xJ (JB H hsz).f1 hsz).f1).f2
end Go.Proofs.YthimcecbgpamdaaGreatDoor
