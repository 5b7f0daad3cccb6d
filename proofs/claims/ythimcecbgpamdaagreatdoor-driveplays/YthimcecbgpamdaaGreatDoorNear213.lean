import Derived.Test.YthimcecbgpamdaaGreatDoorNear219
import Derived.Laws.CopyOwn
open Go.Proofs.Tryz renaming prog->D
open Go.Value renaming int->H,bool->ε,pointer->ζ,slice->η,tuple->Ξ,int->ë
open Go.IntKind renaming i64->U
open Option renaming some->Y
open Go.Proofs.YthimcecbgpamdaaGreatDoor renaming Yo->Z,FldK->θ,stW->κ,rowV->μ,R64->ν,ManyK->ο,Kept->σ,stP->φ,OneK->χ,Many->ω,SlcK->Ψ,LenK->Ω,ArrK->â,InfK->ä,Zer1->æ,OneC->ç,ZerK->è
open Go renaming execOp->β,World->ι,Oper->ρ,Addr->υ,Act->Γ,Operand->Δ,Calls->Λ,zeroValue->á,maxLen->é,callFunc->ê
open _root_ renaming Nat->γ,rfl->δ,if_neg->ξ,Option->τ,List->ψ,if_pos->å
open Go.Obj renaming cells->π
open Go.Oper renaming wp->Θ
open Go.Ending renaming returned->Φ
open List renaming range->à
open Go.World renaming cell?->ã
namespace Go.Proofs.YthimcecbgpamdaaGreatDoor
section
open Go.RowKit
def iV(x:Int):Value:=H U x
def qF(t:Tn)(j:γ):Value:=iV (if j=0 then t.Dt else if j=1 then t.Q else if j=2 then t.R else t.G)
def fJ(s:St)(j:γ):Value:=if j=0 then iV s.X else if j=1 then iV s.V else if j=2 then iV s.P00 else if j=3 then iV s.P01 else if j=4 then iV s.P11 else if j=5 then ε s.B else iV s.M
def dJ(r:Rl)(j:γ):Value:=if j<4 then ε (r.I j) else if j<8 then iV (r.M (j-4)) else iV (r.J (j-8))
def ndF(n:Nd)(v:Value)(j:γ):Value:=
 if j<2 then iV (if j=0 then n.id else n.fr)
 else if j<6 then qF n.tn (j-2)
 else if j<27 then fJ (n.ax ((j-6)/7)) ((j-6)%7)
 else if j<39 then dJ n.rl (j-27)
 else if j<51 then iV (n.di ((j-39)/3) ((j-39)%3))
 else if j<55 then iV (n.he (j-51))
 else if j<67 then iV (n.ag ((j-55)/3) ((j-55)%3))
 else if j<70 then iV (n.us (j-67))
 else if j<71 then iV n.dg
 else if j<72 then iV n.vX
 else if j<73 then ε n.vS
 else v
def jX(n:Nd)(v:Value):Value:=aX (ndF n v) 0 74
def NdAt(w:ι)(b:γ)(n:Nd)(v:Value):Prop:=Vh 43 w b 74 74 (ndF n v)
theorem bJ:ω D 43 74:=Bg _ Tryz.underlying43 rfl Yl
theorem fM:ω D 79 4:=Bg _ Tryz.underlying79 rfl Yl
theorem mW:ω D 37 3:=Bg _ Ff rfl Yl
theorem wU:ω D 34 4:=Bg _ Fg rfl Yl
theorem uX:ω D 38 12:=Bg _ Er rfl Yl
theorem iI:ç D 3:=⟨λw=>by go_simp,λw=>Yh⟩
theorem sJ:ç D 4:=⟨λw=>by go_simp,λw=>Yh⟩
theorem lU:ç D 72:=⟨λw=>by go_simp,λw=>Yh⟩
theorem aFq:ç D 39:=⟨λw=>by go_simp,λw=>Yh⟩
section
variable {w w':ι} {b:γ} {n:Nd} {v:Value}
theorem NdAt.below(h:NdAt w b n v)(k:Below w.heap.size w w'):NdAt w' b n v:=Vh.below h k
theorem NdAt.kept{z}(h:NdAt w b n v)(k:σ z w w')(hz:b≠z):NdAt w' b n v:=Vh.kept h k hz
theorem NdAt.lt(h:NdAt w b n v):b<w.heap.size:=Vh.lt h
theorem NW(n)(v u):∀j,j<74->κ (ndF n v) 73 u j=ndF n u j:=by
 intro j hj;by_cases e:j=73
 .subst e;rfl
 rw[iR _ _ e];unfold ndF;by_cases h1:j<2
 .grind
 by_cases h2:j<6
 .grind
 grind
theorem bQ(n)(a)(l c):∀j,j<74->(ndF n (η a l c) j).oneCell'=true:=by
 intro j _;unfold ndF qF fJ dJ iV
 repeat' split
 all_goals rfl
end
theorem UR:(Tryz.prog.info? 3).map (λi=>(i.zero,i.size,i.bytes))=Y (Y (H U 0),1,8):=Yl
def Nh(w:ι)(b N cap:γ)(g:γ->Int):Prop:=
 ∃cur,w.heap[b]?=Y (π cur 3 (0,0))/\cur.size=cap/\N<=cap/\cap<=é/\∀i,i<N->cur[i]?=Y (H U (g i))
variable{N b cap:γ}{g:γ->Int}{w:ι}
theorem Nh.cell(h:Nh w b N cap g){i}(hi:i<N):w.cell? ⟨b,i,none⟩=Y (H U (g i)):=by obtain⟨c,hb,_,_,_,hc⟩:=h;simp[ã,hb,hc i hi]
theorem Nh.free(h:Nh w b N cap g)(i):w.frozen? ⟨b,i,none⟩=false:=by obtain⟨c,hb,_⟩:=h;simp[World.frozen?,hb]
theorem Nh.lt(h:Nh w b N cap g):b<w.heap.size:=by obtain⟨c,hb,_⟩:=h;exact Cq hb
variable{w':ι}
theorem Nh.same(h:Nh w b N cap g)(e:w'.heap[b]?=w.heap[b]?):Nh w' b N cap g:=by obtain⟨c,hb,hr⟩:=h;exact⟨c,e.trans hb,hr⟩
variable{f:γ->Int}
theorem Nh.congr(h:Nh w b N cap g)(e:∀i,i<N->g i=f i):Nh w b N cap f:=by obtain⟨c,hb,h1,h2,h3,h4⟩:=h;exact⟨c,hb,h1,h2,h3,λi hi=>by rw[h4 i hi,e i hi]⟩
theorem Nh.less{M}(h:Nh w b N cap g)(e:M<=N):Nh w b M cap g:=by obtain⟨c,hb,h1,h2,h3,h4⟩:=h;exact⟨c,hb,h1,Z,h3,λi hi=>h4 i Z⟩
theorem Nh.kept{z}(h:Nh w b N cap g)(k:σ z w w')(hz:b≠z):Nh w' b N cap g:=h.same (k.block b h.lt hz)
theorem Nh.below(h:Nh w b N cap g)(k:Below w.heap.size w w'):Nh w' b N cap g:=h.same (k.block b h.lt)
theorem Nh.set(h:Nh w b N cap g)(i)(x):Nh (w.setCell ⟨b,i,none⟩ (H U x)) b N cap (stF g i x):=by
 obtain⟨c,hb,hn,h2,h3,hc⟩:=h;refine⟨c.setIfInBounds i (iY x),?_,by simpa using hn,h2,h3,λj hj=>?_⟩
 .simp[World.setCell,Array.getElem?_modify,hb]
 rw[Array.getElem?_setIfInBounds];by_cases e:j=i
 .subst e;rw[aLU];simp[hn];omega
 rw[ξ (λh=>e h.symm),aIT g x e];exact hc j hj
theorem Nh.made(w:ι)(n)(hn:n<=é):Nh (w.alloc (π (madeCells #[H U 0] n) 3)) w.heap.size n n (λ_=>0):=by obtain⟨c,h1,h2,h3⟩:=World.rowIs_made w (iY 0) n 3;exact⟨c,h1,h2,Xr _,hn,h3⟩
variable{base n:γ}{v:Value}{xs:ψ Value}
theorem Nh.of_owns(hn:1<=n)(h:w.ownsRow base 3 1 v n xs)(hx:∀i,i<n->xs[i]?=Y (H U (f i))):∃r cap,v=η (Y ⟨r,0,none⟩) n cap/\base<=r/\Nh w r n cap f:=by
 obtain⟨hl,h1⟩:=h;rcases h1 with ⟨rfl,rfl⟩|⟨g,cap,cur,rfl,hg,hh,hc,hm,hsz,hcur⟩
 .omega
 refine⟨g,cap,δ,hg,cur,hh,by simpa using hsz,hc,hm,λi hi=>?_⟩;grind
theorem Nh.owns{r}(h:Nh w r n cap f)(hb:base<=r):w.ownsRow base 3 1 (η (Y ⟨r,0,none⟩) n cap) n ((à n).map (λi=>ë U (f i))):=by obtain⟨c,h1,h2,h3,h4,h5⟩:=h;refine⟨Mt,Ab ⟨r,cap,c,δ,hb,h1,h3,h4,Z,?_⟩⟩;apply Gg;intro i;grind
def Rds(w:ι)(ao:τ υ)(len:γ)(f:γ->Int):Prop:=0<len->∃b o,ao=Y ⟨b,o,none⟩/\∀i,i<len->w.cell? ⟨b,o+i,none⟩=Y (H U (f i))
variable{ao:τ υ}
theorem Rds.below{len}(h:Rds w ao len f)(k:Below w.heap.size w w'):Rds w' ao len f:=by intro hl;obtain⟨b,o,e,hc⟩:=h hl;exact⟨b,o,e,λi hi=>aP (hc i hi) k⟩
def bV(x:γ):Value:=H .u8 x
def bF(g:γ->γ)(i:γ):Value:=bV (g i)
theorem NN:(Tryz.prog.info? 5).map (λi=>(i.zero,i.size,i.bytes))=Y (Y (H .u8 0),1,1):=Yl
def Sr(w:ι)(ao:τ υ)(len cap:γ)(f:γ->Value):Prop:=
 (ao=none/\len=0/\cap=0)\/∃x,ao=Y x/\∀i,i<len->w.cell? (x.add i)=Y (f i)
section
variable {w w':ι} {ao:τ υ} {len cap:γ} {f:γ->Value}
theorem Sr.rd(h:Sr w ao len cap f):Rd w ao len f:=by
 intro hl;rcases h with ⟨_,h0,_⟩|⟨x,rfl,hc⟩
 .omega
 obtain⟨b,o,spot⟩:=x;have hs:spot=none:=by simpa [Addr.add] using World.cell?_spot (hc 0 hl)
 subst hs;exact⟨b,o,δ,λi hi=>by have:=hc i hi;rw[Dq] at this;exact this⟩
theorem Sr.below(h:Sr w ao len cap f)(k:Below w.heap.size w w'):Sr w' ao len cap f:=by
 rcases h with h|⟨x,rfl,hc⟩
 .exact Aa h
 exact Ab ⟨x,δ,λi hi=>aP (hc i hi) k⟩
theorem Sr.less{k}(h:Sr w ao len cap f)(hk:k<=len):Sr w ao k cap f:=by
 rcases h with ⟨h1,h2,h3⟩|⟨x,rfl,hc⟩
 .exact Aa ⟨h1,Z,h3⟩
 exact Ab ⟨x,δ,λi hi=>hc i Z⟩
variable{g:γ->Value}
theorem Sr.congr(h:Sr w ao len cap f)(e:∀i,i<len->f i=g i):Sr w ao len cap g:=by
 rcases h with h|⟨x,rfl,hc⟩
 .exact Aa h
 exact Ab ⟨x,δ,λi hi=>by rw[<-e i hi];exact hc i hi⟩
theorem iT{t}(h:w.ownsRow base t 1 v n (μ g n)):∃ao cap,v=η ao n cap/\Sr w ao n cap g/\n<=cap:=by
 rcases h.2 with ⟨rfl,rfl⟩|⟨r,c,cur,rfl,_,_,hc,_⟩
 .exact⟨none,0,δ,Aa ⟨δ,δ,δ⟩,Xr _⟩
 refine⟨_,c,δ,Ab ⟨_,δ,λi hi=>?_⟩,hc⟩;exact (h).cells δ i (g i) (iU g hi)
end
variable{B:γ}{t:TypeId}
theorem JC(h:w.ownsRow B t 1 v n xs)(hg:w.grownBy w' v.ownBlock){w0}(k:Below B w0 w)(hB:B<=w.heap.size):Below B w0 w':=
 k.trans ⟨hg.os,hg.tape,hg.output,hg.size,λj hj=>hg.block j Z (λe=>by have:=(h.lt j e.symm).1;omega)⟩
theorem oF(h:w.ownsRow B t 1 v n xs)(k:Below w.heap.size w w'):w'.ownsRow B t 1 v n xs:=by
 refine⟨h.1,?_⟩;rcases h.2 with hn|⟨g,cap,cur,rfl,hb,hgg,rest⟩
 .exact .inl hn
 exact .inr ⟨g,cap,cur,δ,hb,(k.block g (Cq hgg)).trans hgg,rest⟩
variable{K:Γ->ι->Prop}{Q:Exit->Γ->ι->Prop}{a:Γ}{o:ρ}
theorem VX(w)(s x)(ho:o.op=.call { callee:=.builtin .append,args:=#[s,x],argTypes:=#[65,65] })(B)(hB:B<=w.heap.size)(v)(n)(xs)(hs:a.eval s=v)(hown:w.ownsRow B 5 1 v n xs)(vo)(lv cv)f(hx:a.eval x=η vo lv cv)(har:Sr w vo lv cv f)(h1:∀i,i<lv->(f i).oneCell'=true)(hl:n+lv<=140737488355328)(h:∀v' w',w'.ownsRow B 5 1 v' (n+lv) (xs++μ f lv)->Below B w w'->K (a.put o.dst v') w'):o.wp D a w K Q:=by
 obtain⟨i0,hi,hz0,hz1,hz2⟩:=Ef NN;rcases har with ⟨rfl,rfl,rfl⟩|⟨y,rfl,hc⟩
 .unfold Θ β;simp only[ho,resolve,invoke,builtin,Aq,Bo,Bb,Ay,Aw,Az,hs,hx,(run_append_owned_none (w:=w) B 65 o.type 5 i0 1 Cz hi v n xs hown)];exact (h v w (by simpa [μ] using hown) (Below.refl _ _))
 refine wp_append_own w s x 65 ho B 5 i0 (H .u8 0) 1 1 Cz hi hz0 hz1 hz2 δ Yc v n xs hs hown y lv cv (μ f lv) hx (M9 f lv) ?_ (pW f lv h1) Ym Z hB ?_
 .intro j u hj;rcases Ar j lv with h2|h2
  .rw[iU f h2] at hj;grind
  rw[jQ f h2] at hj;cases hj
 intro v' w2 ho2 hgr hnil;exact h v' w2 ho2 (JC hown hgr (Af _ _) hB)
variable{ops:Array ρ}{rest:ψ ρ}
theorem kK(w)(hgd:o.guard=none)(s x)(ho:o.op=.call { callee:=.builtin .append,args:=#[s,x],argTypes:=#[65,65] })(B)(hB:B<=w.heap.size)(v)(n)(xs)(hs:a.eval s=v)(hown:w.ownsRow B 5 1 v n xs)(vo)(lv cv)f(hx:a.eval x=η vo lv cv)(har:Sr w vo lv cv f)(h1:∀i,i<lv->(f i).oneCell'=true)(hl:n+lv<=140737488355328)(h:∀v' w',w'.ownsRow B 5 1 v' (n+lv) (xs++μ f lv)->Below B w w'->wpList D ops Q rest (a.put o.dst v') w'):wpList D ops Q (o::rest) a w:=
 wpList_plain hgd λ_ hK=>VX w s x ho B hB v n xs hs hown vo lv cv f hx har h1 hl λv' w' h2 h3=>hK _ _ (h v' w' h2 h3)
theorem aMM(w)(l c)(ho:o.op=.makeSlice 65 l c)(n m:γ)(hl:a.eval l=H U n)(hc:a.eval c=H U m)(hnm:n<=m)(hn:m<=281474976710656)(h:∀w',w'.heap.size=w.heap.size+1->Vh 5 w' w.heap.size n m (bF (λ_=>0))->Below w.heap.size w w'->K (a.put o.dst (η (Y ⟨w.heap.size,0,none⟩) n m)) w'):o.wp D a w K Q:=by obtain⟨i0,hi,hz0,hz1,hz2⟩:=Ef NN;have hrun:=run_make w 65 5 i0 (H .u8 0) Cz hi hz0 U U n m Z Z (by rw[hz2];omega) Z;rw[hz1] at hrun;simp only[Hm,Cs] at hrun;unfold Θ β;simp only[ho,hl,hc,hrun,Aq,Bo,Bb];exact (h _ (fA _ _) ((Vh.made w 5 (H .u8 0) m Ym).less hnm) (bU _ _))
theorem wpList_makeC(w)(hgd:o.guard=none)(l c)(ho:o.op=.makeSlice 65 l c)(n m:γ)(hl:a.eval l=H U n)(hc:a.eval c=H U m)(hnm:n<=m)(hn:m<=281474976710656)(h:∀w',w'.heap.size=w.heap.size+1->Vh 5 w' w.heap.size n m (bF (λ_=>0))->Below w.heap.size w w'->wpList D ops Q rest (a.put o.dst (η (Y ⟨w.heap.size,0,none⟩) n m)) w'):wpList D ops Q (o::rest) a w:=
 wpList_plain hgd λ_ hK=>aMM w l c ho n m hl hc hnm hn λw' h1 h2 h3=>hK _ _ (h w' h1 h2 h3)
theorem aMK(w)(d s)(ho:o.op=.call { callee:=.builtin .copy,args:=#[d,s],argTypes:=#[65,65] })(b n cap)f(hd:a.eval d=η (Y ⟨b,0,none⟩) n cap)(hv:Vh 5 w b n cap f)(vo)(cv)g(hs:a.eval s=η vo n cv)(hr:Rd w vo n g)(h1:∀i,(g i).oneCell'=true)(h:∀w',Vh 5 w' b n cap g->σ b w w'->K (a.put o.dst (goInt n)) w'):o.wp D a w K Q:=by
 have hsz:(Tryz.prog.info? 5).map (·.size)=Y 1:=by kernel_rfl
 rcases Bj n with h0|h0
 .subst h0;have hrun:=run_copy_none (P:=D) w 65 65 o.type 5 (Y ⟨b,0,none⟩) vo 0 cap 0 cv Cz hsz (by rfl);have hh:=h w (hv.congr (λi hi=>absurd hi Z)) (IX _ _);unfold Θ β;simp only[ho,resolve,invoke,builtin,Aq,Bo,Bb,Ay,Aw,Az,hd,hs,hrun];exact hh
 obtain⟨ad,rfl,hsrc⟩:=hr.list h0;obtain⟨cur,hb,hn,hfit,hmax,_⟩:=hv;have hrun:=run_copy_row (P:=D) w 65 65 o.type 5 b 0 n cap ad n cv cur 5 (μ g n) Cz hsz hb (by rw[iA];exact (Nat.min_self n).symm) hsrc (by rw[iA];omega) (pW g n (λi _=>h1 i));rw[iA] at hrun;have hh:=h (w.setRow b (cur.toList.take 0++μ g n++cur.toList.drop (0+n)).toArray)
  ⟨_,setRow_heap w b cur _ 5 (0,0) hb,by simp[iA];omega,hfit,hmax,λi hi=>by simp only[List.take_zero,Da,Ho];rw[Fs (by rw[iA];exact hi),iU g hi]⟩
  ⟨rfl,rfl,rfl,by simp,λk _ hk=>setRow_other w b k _ hk⟩
 unfold Θ β;simp only[ho,resolve,invoke,builtin,Aq,Bo,Bb,Ay,Aw,Az,hd,hs,hrun];exact hh
theorem wpList_copyB(w)(hgd:o.guard=none)(d s)(ho:o.op=.call { callee:=.builtin .copy,args:=#[d,s],argTypes:=#[65,65] })(b n cap)f(hd:a.eval d=η (Y ⟨b,0,none⟩) n cap)(hv:Vh 5 w b n cap f)(vo)(cv)g(hs:a.eval s=η vo n cv)(hr:Rd w vo n g)(h1:∀i,(g i).oneCell'=true)(h:∀w',Vh 5 w' b n cap g->σ b w w'->wpList D ops Q rest (a.put o.dst (goInt n)) w'):wpList D ops Q (o::rest) a w:=
 wpList_plain hgd λ_ hK=>aMK w d s ho b n cap f hd hv vo cv g hs hr h1 λw' h2 h3=>hK _ _ (h w' h2 h3)
theorem bF_one(g:γ->γ)(i):(bF g i).oneCell'=true:=rfl
end
section
open Go.RowKit
def iF(f:γ->Int)(i:γ):Value:=H U (f i)
variable{B n:γ}{t:TypeId}{v:Value}{w:ι}{xs:ψ Value}
theorem xS{C}(h:w.ownsRow B t 1 v n xs)(e:C<=B):w.ownsRow C t 1 v n xs:=by
 refine⟨h.1,?_⟩;rcases h.2 with hn|⟨g,cap,cur,rfl,hb,rest⟩
 .exact .inl hn
 exact .inr ⟨g,cap,cur,δ,Ap e hb,rest⟩
variable{z:γ}
theorem wG{w'}(h:w.ownsRow B t 1 v n xs)(k:σ z w w')(hz:z<B):w'.ownsRow B t 1 v n xs:=by
 refine⟨h.1,?_⟩;rcases h.2 with hn|⟨g,cap,cur,rfl,hb,hgg,rest⟩
 .exact .inl hn
 exact .inr ⟨g,cap,cur,δ,hb,(k.block g (Cq hgg) Z).trans hgg,rest⟩
variable{i:γ}
theorem aIh{g u:γ->Value}(h:g i=u 0):μ g i++μ u 1=μ g (i+1):=by rw[mH];refine iW (λj hj=>?_);grind
variable{K:Γ->ι->Prop}{Q:Exit->Γ->ι->Prop}{a:Γ}{o:ρ}
theorem mF(w)(s x)(ho:o.op=.call { callee:=.builtin .append,args:=#[s,x],argTypes:=#[72,72] })(B)(hB:B<=w.heap.size)(v)(n)(xs)(hs:a.eval s=v)(hown:w.ownsRow B 3 1 v n xs)(vo)(lv cv)f(hx:a.eval x=η vo lv cv)(har:Sr w vo lv cv f)(h1:∀i,i<lv->(f i).oneCell'=true)(hl:(n+lv)*8<=140737488355328)(h:∀v' w',w'.ownsRow B 3 1 v' (n+lv) (xs++μ f lv)->Below B w w'->K (a.put o.dst v') w'):o.wp D a w K Q:=by
 obtain⟨i0,hi,hz0,hz1,hz2⟩:=Ef UR;rcases har with ⟨rfl,rfl,rfl⟩|⟨y,rfl,hc⟩
 .unfold Θ β;simp only[ho,resolve,invoke,builtin,Aq,Bo,Bb,Ay,Aw,Az,hs,hx,(run_append_owned_none (w:=w) B 72 o.type 3 i0 1 Fu hi v n xs hown)];exact (h v w (by simpa [μ] using hown) (Below.refl _ _))
 refine wp_append_own w s x 72 ho B 3 i0 (iY 0) 1 8 Fu hi hz0 hz1 hz2 δ Yc v n xs hs hown y lv cv (μ f lv) hx (M9 f lv) ?_ (pW f lv h1) Ym Z hB ?_
 .intro j u hj;rcases Ar j lv with h2|h2
  .rw[iU f h2] at hj;grind
  rw[jQ f h2] at hj;cases hj
 intro v' w2 ho2 hgr hnil;exact h v' w2 ho2 (JC hown hgr (Af _ _) hB)
theorem wpList_joinI(w){ops}{rest}(hgd:o.guard=none)(s x)(ho:o.op=.call { callee:=.builtin .append,args:=#[s,x],argTypes:=#[72,72] })(B)(hB:B<=w.heap.size)(v)(n)(xs)(hs:a.eval s=v)(hown:w.ownsRow B 3 1 v n xs)(vo)(lv cv)f(hx:a.eval x=η vo lv cv)(har:Sr w vo lv cv f)(h1:∀i,i<lv->(f i).oneCell'=true)(hl:(n+lv)*8<=140737488355328)(h:∀v' w',w'.ownsRow B 3 1 v' (n+lv) (xs++μ f lv)->Below B w w'->wpList D ops Q rest (a.put o.dst v') w'):wpList D ops Q (o::rest) a w:=
 wpList_plain hgd λ_ hK=>mF w s x ho B hB v n xs hs hown vo lv cv f hx har h1 hl λv' w' h2 h3=>hK _ _ (h v' w' h2 h3)
def aNa(O R t:Int):Prop:=O< -1073741824\/1073741824<O\/R< -500\/500<R\/t<0\/1099511627776<t
instance (O R t:Int):Decidable (aNa O R t):=by unfold aNa;infer_instance
def mdR(f:γ->Int)(n:γ)(m E:Int):Prop:=(1<=n/\n<=64/\E=0/\R9 f n m)\/((n<1\/64<n)/\E=8/\m=0)
def aTx(fn:γ):Prop:=∀(ao) (n cap) f w,(∀i,ν (f i))->n*8<=140737488351232->n<=cap->Sr w ao n cap (iF f)->
 Λ D fn #[η ao n cap] w λe w'=>∃m E,mdR f n m E/\e=Φ (Ξ #[H U m,H U E])/\Below w.heap.size w w'
def U6(f:γ->Int):Value:=.agg #[H U (f 0),H U (f 1),H U (f 2),H U (f 3)]
def F4(w:ι)(b:γ)(f:γ->Int):Prop:=Vh 34 w b 4 4 (iF f)
section
variable {w w':ι} {b:γ} {f:γ->Int}
theorem F4.cell(h:F4 w b f)(hi:i<4):w.cell? ⟨b,i,none⟩=Y (H U (f i)):=Vh.cell h hi
theorem F4.free(h:F4 w b f)(i):w.frozen? ⟨b,i,none⟩=false:=Vh.free h i
theorem F4.lt(h:F4 w b f):b<w.heap.size:=Vh.lt h
theorem F4.below(h:F4 w b f)(k:Below w.heap.size w w'):F4 w' b f:=Vh.below h k
theorem F4.under(h:F4 w b f)(k:Below B w w')(hb:b<B):F4 w' b f:=Vh.same h (k.block b hb)
theorem F4.kept(h:F4 w b f)(k:σ z w w')(hz:b≠z):F4 w' b f:=Vh.kept h k hz
theorem F4.congr{g:γ->Int}(h:F4 w b f)(e:∀i,i<4->f i=g i):F4 w b g:=Vh.congr h (λi hi=>by unfold iF;rw[e i hi])
theorem F4.set(h:F4 w b f)(i)(x):F4 (w.setCell ⟨b,i,none⟩ (H U x)) b (λj=>if j=i then x else f j):=
 Ac (Vh.set h i (iY x)) (λj _=>by
  unfold κ iF;by_cases e:j=i
  .grind
  rw[ξ e];show _=ë U (if j=i then x else f j);rw[ξ e])
theorem F4.new(w:ι)f:F4 (w.alloc (π #[H U (f 0),H U (f 1),H U (f 2),H U (f 3)] 34)) w.heap.size f:=
 Vh.new w 34 #[iY (f 0),iY (f 1),iY (f 2),iY (f 3)] (iF f) (by show 4<=é;decide) (λi hi=>by have:i=0\/i=1\/i=2\/i=3:=Nq;rcases this with rfl|rfl|rfl|rfl<;>rfl)
theorem F4.put(h:F4 w b f)g:∃w',w'=(((w.setCell ⟨b,0,none⟩ (H U (g 0))).setCell ⟨b,1,none⟩ (H U (g 1))).setCell ⟨b,2,none⟩ (H U (g 2))).setCell ⟨b,3,none⟩ (H U (g 3))/\F4 w' b g/\σ b w w':=by refine⟨_,rfl,((((h.set 0 (g 0)).set 1 (g 1)).set 2 (g 2)).set 3 (g 3)).congr (λi hi=>?_),(((bN w b 0 _).trans (bN _ b 1 _) (Aa rfl)).trans (bN _ b 2 _) (Aa rfl)).trans (bN _ b 3 _) (Aa rfl)⟩;grind
end
theorem aAx(w)f:∃w1,w1=w.alloc (π #[H U (f 0),H U (f 1),H U (f 2),H U (f 3)] 34)/\F4 w1 w.heap.size f/\Below w.heap.size w w1/\w1.heap.size=w.heap.size+1:=
 ⟨_,rfl,F4.new w f,bU w _,fA w _⟩
theorem DV(f:γ->Int)(hi:i<4)(w):(Instr.index 34 (.agg #[H U (f 0),H U (f 1),H U (f 2),H U (f 3)]) (H U i)).run D w=.ok (H U (f i)) w:=by have:i=0\/i=1\/i=2\/i=3:=Z;rcases this with rfl|rfl|rfl|rfl<;>simp[Instr.index,go_sem]
def tF(b:γ->Bool)(i:γ):Value:=ε (b i)
def U0(b:γ->Bool):Value:=.agg #[ε (b 0),ε (b 1),ε (b 2),ε (b 3)]
def B4(w:ι)(p:γ)(b:γ->Bool):Prop:=Vh 33 w p 4 4 (tF b)
section
variable {w w':ι} {p:γ} {b:γ->Bool}
theorem B4.cell(h:B4 w p b)(hi:i<4):w.cell? ⟨p,i,none⟩=Y (ε (b i)):=Vh.cell h hi
theorem B4.free(h:B4 w p b)(i):w.frozen? ⟨p,i,none⟩=false:=Vh.free h i
theorem B4.lt(h:B4 w p b):p<w.heap.size:=Vh.lt h
theorem B4.below(h:B4 w p b)(k:Below w.heap.size w w'):B4 w' p b:=Vh.below h k
theorem B4.under(h:B4 w p b)(k:Below B w w')(hb:p<B):B4 w' p b:=Vh.same h (k.block p hb)
theorem B4.kept(h:B4 w p b)(k:σ z w w')(hz:p≠z):B4 w' p b:=Vh.kept h k hz
theorem B4.congr{g:γ->Bool}(h:B4 w p b)(e:∀i,i<4->b i=g i):B4 w p g:=Vh.congr h (λi hi=>by unfold tF;rw[e i hi])
theorem B4.set(h:B4 w p b)(i)(x):B4 (w.setCell ⟨p,i,none⟩ (ε x)) p (λj=>if j=i then x else b j):=
 Ac (Vh.set h i (ε x)) (λj _=>by
  unfold κ tF;by_cases e:j=i
  .grind
  rw[ξ e];show _=Value.bool (if j=i then x else b j);rw[ξ e])
theorem B4.new(w:ι)b:B4 (w.alloc (π #[ε (b 0),ε (b 1),ε (b 2),ε (b 3)] 33)) w.heap.size b:=
 Vh.new w 33 #[ε (b 0),ε (b 1),ε (b 2),ε (b 3)] (tF b) (by show 4<=é;decide) (λi hi=>by have:i=0\/i=1\/i=2\/i=3:=Nq;rcases this with rfl|rfl|rfl|rfl<;>rfl)
end
theorem ZY(w)b:∃w1,w1=w.alloc (π #[ε (b 0),ε (b 1),ε (b 2),ε (b 3)] 33)/\B4 w1 w.heap.size b/\Below w.heap.size w w1/\w1.heap.size=w.heap.size+1:=
 ⟨_,rfl,B4.new w b,bU w _,fA w _⟩
def vdV(X:Int)(S:Bool)(r:Value):Value:=.agg #[H U X,ε S,r]
def VdAt(w:ι)(b:γ)(X:Int)(S:Bool)(r:Value):Prop:=w.heap[b]?=Y (π #[H U X,ε S,r] 41 (0,0))
section
variable {w w':ι} {b:γ} {X:Int} {S:Bool} {r:Value}
theorem VdAt.cell0(h:VdAt w b X S r):w.cell? ⟨b,0,none⟩=Y (H U X):=by unfold VdAt at h;unfold ã;rw[h];rfl
theorem VdAt.cell1(h:VdAt w b X S r):w.cell? ⟨b,1,none⟩=Y (ε S):=by unfold VdAt at h;unfold ã;rw[h];rfl
theorem VdAt.cell2(h:VdAt w b X S r):w.cell? ⟨b,2,none⟩=Y r:=by unfold VdAt at h;unfold ã;rw[h];rfl
theorem VdAt.free(h:VdAt w b X S r)(i):w.frozen? ⟨b,i,none⟩=false:=by unfold VdAt at h;simp[World.frozen?,h]
theorem VdAt.lt(h:VdAt w b X S r):b<w.heap.size:=Cq h
theorem VdAt.same(h:VdAt w b X S r)(e:w'.heap[b]?=w.heap[b]?):VdAt w' b X S r:=e.trans h
theorem VdAt.below(h:VdAt w b X S r)(k:Below w.heap.size w w'):VdAt w' b X S r:=h.same (k.block b h.lt)
theorem VdAt.under(h:VdAt w b X S r)(k:Below B w w')(hb:b<B):VdAt w' b X S r:=h.same (k.block b hb)
theorem VdAt.kept(h:VdAt w b X S r)(k:σ z w w')(hz:b≠z):VdAt w' b X S r:=h.same (k.block b h.lt hz)
theorem VdAt.new(w:ι)(X)(S)(r):VdAt (w.alloc (π #[H U X,ε S,r] 41)) w.heap.size X S r:=by show (w.heap.push _)[w.heap.size]?=_;rw[Bt]
theorem VdAt.put(h:VdAt w b X S r)(X')(S')(u):∃w',w'=((w.setCell ⟨b,0,none⟩ (H U X')).setCell ⟨b,1,none⟩ (ε S')).setCell ⟨b,2,none⟩ u/\VdAt w' b X' S' u/\σ b w w':=by refine⟨_,rfl,?_,((bN w b 0 _).trans (bN _ b 1 _) (Aa rfl)).trans (bN _ b 2 _) (Aa rfl)⟩;exact Bz _ b 2 _ _ u (Bz _ b 1 _ _ (ε S') (Bz w b 0 _ _ (iY X') h))
theorem VdAt.put0(h:VdAt w b X S r)(X'):∃w',w'=w.setCell ⟨b,0,none⟩ (H U X')/\VdAt w' b X' S r/\σ b w w':=by refine⟨_,rfl,?_,bN w b 0 _⟩;exact Bz w b 0 _ _ (iY X') h
theorem VdAt.put1(h:VdAt w b X S r)(S'):∃w',w'=w.setCell ⟨b,1,none⟩ (ε S')/\VdAt w' b X S' r/\σ b w w':=by refine⟨_,rfl,?_,bN w b 1 _⟩;exact Bz w b 1 _ _ (ε S') h
theorem VdAt.put2(h:VdAt w b X S r)(u):∃w',w'=w.setCell ⟨b,2,none⟩ u/\VdAt w' b X S u/\σ b w w':=by refine⟨_,rfl,?_,bN w b 2 _⟩;exact Bz w b 2 _ _ u h
end
theorem PE(w)(X)(S)(r):∃w1,w1=w.alloc (π #[H U X,ε S,r] 41)/\VdAt w1 w.heap.size X S r/\Below w.heap.size w w1/\w1.heap.size=w.heap.size+1:=
 ⟨_,rfl,VdAt.new w X S r,bU w _,fA w _⟩
def aQR(fn:γ):Prop:=∀v b w,(∀i,ν (v i))->
 Λ D fn #[U6 v,U0 b] w λe w'=>∃(X:Int) (r:Value),xG v b 4 X/\e=Φ (vdV X (JX v b X) r)/\w'.ownsRow w.heap.size 4 1 r 4 (μ (tF (uE v b X)) 4)/\Below w.heap.size w w'
theorem aKo:(Tryz.prog.info? 4).map (λi=>(i.zero,i.size,i.bytes))=Y (Y (ε false),1,1):=Yl
theorem aCs(w)(s x)(ho:o.op=.call { callee:=.builtin .append,args:=#[s,x],argTypes:=#[39,39] })(B)(hB:B<=w.heap.size)(v)(n)(xs)(hs:a.eval s=v)(hown:w.ownsRow B 4 1 v n xs)(vo)(lv cv)f(hx:a.eval x=η vo lv cv)(har:Sr w vo lv cv f)(h1:∀i,i<lv->(f i).oneCell'=true)(hl:n+lv<=140737488355328)(h:∀v' w',w'.ownsRow B 4 1 v' (n+lv) (xs++μ f lv)->Below B w w'->K (a.put o.dst v') w'):o.wp D a w K Q:=by
 obtain⟨i0,hi,hz0,hz1,hz2⟩:=Ef aKo;rcases har with ⟨rfl,rfl,rfl⟩|⟨y,rfl,hc⟩
 .unfold Θ β;simp only[ho,resolve,invoke,builtin,Aq,Bo,Bb,Ay,Aw,Az,hs,hx,(run_append_owned_none (w:=w) B 39 o.type 4 i0 1 Tryz.underlying39 hi v n xs hown)];exact (h v w (by simpa [μ] using hown) (Below.refl _ _))
 refine wp_append_own w s x 39 ho B 4 i0 (ε false) 1 1 Tryz.underlying39 hi hz0 hz1 hz2 δ Yc v n xs hs hown y lv cv (μ f lv) hx (M9 f lv) ?_ (pW f lv h1) Ym Z hB ?_
 .intro j u hj;rcases Ar j lv with h2|h2
  .rw[iU f h2] at hj;grind
  rw[jQ f h2] at hj;cases hj
 intro v' w2 ho2 hgr hnil;exact h v' w2 ho2 (JC hown hgr (Af _ _) hB)
end
section
open Go.RowKit
section
variable {f:Δ->Value} {o:ρ} {x:Δ} {b off:γ}
theorem IE(ho:o.op=.fieldAddr 43 x 0)(hx:f x=ζ (Y ⟨b,off,none⟩))(w):(β f o).run D w=.ok (.value (ζ (Y ⟨b,off+0,none⟩))) w:=Yg
theorem aAC(ho:o.op=.fieldAddr 43 x 1)(hx:f x=ζ (Y ⟨b,off,none⟩))(w):(β f o).run D w=.ok (.value (ζ (Y ⟨b,off+1,none⟩))) w:=Yg
theorem aRt(ho:o.op=.fieldAddr 43 x 2)(hx:f x=ζ (Y ⟨b,off,none⟩))(w):(β f o).run D w=.ok (.value (ζ (Y ⟨b,off+2,none⟩))) w:=Yg
theorem QJ(ho:o.op=.fieldAddr 43 x 3)(hx:f x=ζ (Y ⟨b,off,none⟩))(w):(β f o).run D w=.ok (.value (ζ (Y ⟨b,off+6,none⟩))) w:=Yg
theorem IG(ho:o.op=.fieldAddr 43 x 4)(hx:f x=ζ (Y ⟨b,off,none⟩))(w):(β f o).run D w=.ok (.value (ζ (Y ⟨b,off+27,none⟩))) w:=Yg
theorem aGV(ho:o.op=.fieldAddr 43 x 5)(hx:f x=ζ (Y ⟨b,off,none⟩))(w):(β f o).run D w=.ok (.value (ζ (Y ⟨b,off+39,none⟩))) w:=Yg
theorem aAD(ho:o.op=.fieldAddr 43 x 6)(hx:f x=ζ (Y ⟨b,off,none⟩))(w):(β f o).run D w=.ok (.value (ζ (Y ⟨b,off+51,none⟩))) w:=Yg
theorem aRu(ho:o.op=.fieldAddr 43 x 7)(hx:f x=ζ (Y ⟨b,off,none⟩))(w):(β f o).run D w=.ok (.value (ζ (Y ⟨b,off+55,none⟩))) w:=Yg
theorem aRv(ho:o.op=.fieldAddr 43 x 8)(hx:f x=ζ (Y ⟨b,off,none⟩))(w):(β f o).run D w=.ok (.value (ζ (Y ⟨b,off+67,none⟩))) w:=Yg
theorem aRw(ho:o.op=.fieldAddr 43 x 9)(hx:f x=ζ (Y ⟨b,off,none⟩))(w):(β f o).run D w=.ok (.value (ζ (Y ⟨b,off+70,none⟩))) w:=Yg
theorem aEb(ho:o.op=.fieldAddr 43 x 10)(hx:f x=ζ (Y ⟨b,off,none⟩))(w):(β f o).run D w=.ok (.value (ζ (Y ⟨b,off+71,none⟩))) w:=Yg
theorem aRp(ho:o.op=.fieldAddr 79 x 0)(hx:f x=ζ (Y ⟨b,off,none⟩))(w):(β f o).run D w=.ok (.value (ζ (Y ⟨b,off+0,none⟩))) w:=Yg
theorem aRq(ho:o.op=.fieldAddr 79 x 1)(hx:f x=ζ (Y ⟨b,off,none⟩))(w):(β f o).run D w=.ok (.value (ζ (Y ⟨b,off+1,none⟩))) w:=Yg
theorem aRr(ho:o.op=.fieldAddr 79 x 2)(hx:f x=ζ (Y ⟨b,off,none⟩))(w):(β f o).run D w=.ok (.value (ζ (Y ⟨b,off+2,none⟩))) w:=Yg
theorem aRs(ho:o.op=.fieldAddr 79 x 3)(hx:f x=ζ (Y ⟨b,off,none⟩))(w):(β f o).run D w=.ok (.value (ζ (Y ⟨b,off+3,none⟩))) w:=Yg
theorem aRD(ho:o.op=.fieldAddr 41 x 0)(hx:f x=ζ (Y ⟨b,off,none⟩))(w):(β f o).run D w=.ok (.value (ζ (Y ⟨b,off+0,none⟩))) w:=Yg
theorem aRE(ho:o.op=.fieldAddr 41 x 1)(hx:f x=ζ (Y ⟨b,off,none⟩))(w):(β f o).run D w=.ok (.value (ζ (Y ⟨b,off+1,none⟩))) w:=Yg
theorem aRF(ho:o.op=.fieldAddr 41 x 2)(hx:f x=ζ (Y ⟨b,off,none⟩))(w):(β f o).run D w=.ok (.value (ζ (Y ⟨b,off+2,none⟩))) w:=Yg
theorem aAE(ho:o.op=.fieldAddr 36 x 0)(hx:f x=ζ (Y ⟨b,off,none⟩))(w):(β f o).run D w=.ok (.value (ζ (Y ⟨b,off+0,none⟩))) w:=Yg
theorem aGW(ho:o.op=.fieldAddr 36 x 1)(hx:f x=ζ (Y ⟨b,off,none⟩))(w):(β f o).run D w=.ok (.value (ζ (Y ⟨b,off+4,none⟩))) w:=Yg
theorem aGX(ho:o.op=.fieldAddr 36 x 2)(hx:f x=ζ (Y ⟨b,off,none⟩))(w):(β f o).run D w=.ok (.value (ζ (Y ⟨b,off+8,none⟩))) w:=Yg
theorem aGY(ho:o.op=.fieldAddr 31 x 0)(hx:f x=ζ (Y ⟨b,off,none⟩))(w):(β f o).run D w=.ok (.value (ζ (Y ⟨b,off+0,none⟩))) w:=Yg
theorem aGZ(ho:o.op=.fieldAddr 31 x 1)(hx:f x=ζ (Y ⟨b,off,none⟩))(w):(β f o).run D w=.ok (.value (ζ (Y ⟨b,off+1,none⟩))) w:=Yg
theorem aHa(ho:o.op=.fieldAddr 31 x 2)(hx:f x=ζ (Y ⟨b,off,none⟩))(w):(β f o).run D w=.ok (.value (ζ (Y ⟨b,off+2,none⟩))) w:=Yg
theorem aHb(ho:o.op=.fieldAddr 31 x 3)(hx:f x=ζ (Y ⟨b,off,none⟩))(w):(β f o).run D w=.ok (.value (ζ (Y ⟨b,off+3,none⟩))) w:=Yg
theorem aHc(ho:o.op=.fieldAddr 31 x 4)(hx:f x=ζ (Y ⟨b,off,none⟩))(w):(β f o).run D w=.ok (.value (ζ (Y ⟨b,off+4,none⟩))) w:=Yg
theorem aHd(ho:o.op=.fieldAddr 31 x 5)(hx:f x=ζ (Y ⟨b,off,none⟩))(w):(β f o).run D w=.ok (.value (ζ (Y ⟨b,off+5,none⟩))) w:=Yg
theorem aHe(ho:o.op=.fieldAddr 31 x 6)(hx:f x=ζ (Y ⟨b,off,none⟩))(w):(β f o).run D w=.ok (.value (ζ (Y ⟨b,off+6,none⟩))) w:=Yg
theorem aRz(ho:o.op=.fieldAddr 27 x 0)(hx:f x=ζ (Y ⟨b,off,none⟩))(w):(β f o).run D w=.ok (.value (ζ (Y ⟨b,off+0,none⟩))) w:=Yg
theorem aRA(ho:o.op=.fieldAddr 27 x 1)(hx:f x=ζ (Y ⟨b,off,none⟩))(w):(β f o).run D w=.ok (.value (ζ (Y ⟨b,off+1,none⟩))) w:=Yg
theorem aRB(ho:o.op=.fieldAddr 27 x 2)(hx:f x=ζ (Y ⟨b,off,none⟩))(w):(β f o).run D w=.ok (.value (ζ (Y ⟨b,off+2,none⟩))) w:=Yg
theorem aRC(ho:o.op=.fieldAddr 27 x 3)(hx:f x=ζ (Y ⟨b,off,none⟩))(w):(β f o).run D w=.ok (.value (ζ (Y ⟨b,off+3,none⟩))) w:=Yg
variable{u v:Int}
theorem nA(x y)(ho:o.op=.binOp .add 3 x y 3)(hx:f x=H U u)(hy:f y=H U v)(h1: -9223372036854775808<=u+v)(h2:u+v<=9223372036854775807)(w):(β f o).run D w=.ok (.value (H U (u+v))) w:=by go_simp;rw[Db];omega
theorem kT(x y)(ho:o.op=.binOp .sub 3 x y 3)(hx:f x=H U u)(hy:f y=H U v)(h1: -9223372036854775808<=u-v)(h2:u-v<=9223372036854775807)(w):(β f o).run D w=.ok (.value (H U (u-v))) w:=by go_simp;rw[Db];omega
variable{b:Bool}
theorem dH(x y)(ho:o.op=.binOp .lss 3 x y 3)(hx:f x=H U u)(hy:f y=H U v)(hb:decide (u<v)=b)(w):(β f o).run D w=.ok (.value (ε b)) w:=by go_simp
theorem bW(x y)(ho:o.op=.binOp .gtr 3 x y 3)(hx:f x=H U u)(hy:f y=H U v)(hb:decide (v<u)=b)(w):(β f o).run D w=.ok (.value (ε b)) w:=by go_simp
theorem bK(x y)(ho:o.op=.binOp .eql 3 x y 3)(hx:f x=H U u)(hy:f y=H U v)(hb:decide (u=v)=b)(w):(β f o).run D w=.ok (.value (ε b)) w:=by have e:(u==v)=b:=Oq;go_simp
theorem dO(x y)(ho:o.op=.binOp .neq 3 x y 3)(hx:f x=H U u)(hy:f y=H U v)(hb:decide (u≠v)=b)(w):(β f o).run D w=.ok (.value (ε b)) w:=by have e:(u !=v)=b:=Oq;go_simp
end
theorem mQ(w):(á 43).run D w=.ok (aX (ndF dS (η none 0 0)) 0 74) w:=by
 obtain⟨z,e⟩:=wZ (aX (ndF dS (η none 0 0)) 0 74);have h:∀w,(á 43).run uC w=.ok z w:=λw=>by rw[e];kernel_rfl
 rw[h w,e]
structure Lm where
 m:Ms
 ao:τ υ
 cap:γ
def lmV(c:Lm):Value:=η c.ao c.m.L.length c.cap
def msF(K F R:Int)(v:Value)(j:γ):Value:=if j=0 then iV K else if j=1 then iV F else if j=2 then iV R else v
def wT(c:Lm):γ->Value:=msF c.m.K c.m.F c.m.R (lmV c)
def LmRd(w:ι)(ao:τ υ)(L:ψ Lm):Prop:=0<L.length->∃b o,ao=Y ⟨b,o,none⟩/\∀i c,L[i]?=Y c->∀k,k<4->w.cell? ⟨b,o+i*4+k,none⟩=Y (wT c k)
def gL(l:ψ Int)(i:γ):Int:=l.getD i 0
def LvRd(w:ι)(c:Lm):Prop:=Sr w c.ao c.m.L.length c.cap (iF (gL c.m.L))/\c.m.L.length<=c.cap/\c.m.L.length<=17592186044404
def MRd(w:ι)(ao:τ υ)(L:ψ Lm):Prop:=LmRd w ao L/\∀c,c∈L->LvRd w c
variable{L:ψ Lm}{ao:τ υ}{w w':ι}
theorem LmRd.below(h:LmRd w ao L)(k:Below w.heap.size w w'):LmRd w' ao L:=λhl=>by obtain⟨b,o,e,hc⟩:=h hl;exact⟨b,o,e,λi c hi j hj=>aP (hc i c hi j hj) k⟩
variable{c:Lm}
theorem LvRd.below(h:LvRd w c)(k:Below w.heap.size w w'):LvRd w' c:=⟨h.1.below k,h.2⟩
theorem MRd.below(h:MRd w ao L)(k:Below w.heap.size w w'):MRd w' ao L:=⟨h.1.below k,λc hc=>(h.2 c hc).below k⟩
def jI(id fr:Int)(s kind:Int)(many:Int)(m:Ms):Bool:=decide (m.F=s)&&decide (m.F≠id)&&decide (m.K=kind)&&decide (m.R=fr)&&decide (m.L.length=many)
def fL(id fr:Int)(L:ψ Lm)(s kind many:Int):τ Lm:=L.find? λc=>jI id fr s kind many c.m
theorem uH(n)(L)(s:γ)(kind)(many:γ):(fL n.id n.fr L s kind many).map (λc=>c.m.L)=F8 n (L.map Lm.m) s kind many:=by
 unfold fL F8;induction L with
 |nil=>rfl
 |cons c L ih=>
  have e:jI n.id n.fr s kind many c.m=(decide (c.m.F=(s:Int))&&decide (c.m.F≠n.id)&&decide (c.m.K=kind)&&decide (c.m.R=n.fr)&&decide (c.m.L.length=many)):=by unfold jI;congr 1;exact Dc.2 Z
  grind
variable{f:Δ->Value}{o:ρ}
theorem nU(x y)(ho:o.op=.indexAddr 101 x y){b off n cap i:γ}{z}(hx:f x=η (Y ⟨b,off,none⟩) n cap)(hy:f y=H U z)(hz:z=(i))(hi:i<n)(w):(β f o).run D w=.ok (.value (ζ (Y ⟨b,off+i*4,none⟩))) w:=by go_simp
theorem mE(x)(ho:o.op=.load 79 x){b off}(hx:f x=ζ (Y ⟨b,off,none⟩))(hc:∀k,k<4->w.cell? ⟨b,off+k,none⟩=Y (wT c k)):(β f o).run D w=.ok (.value (aX (wT c) 0 4)) w:=by
 have hl:(loadCells ⟨b,off,none⟩ 4).run uC w=.ok ((à 4).map λj=>wT c (0+j)).toArray w:=
  run_loadCells w ⟨b,off,none⟩ 4 (λj=>wT c (0+j)) (λj hj=>by rw[kC,Ah];exact hc j hj)
 unfold β;simp only[ho,hx,Instr.loadAt,Instr.sureAddr,loadVar,Aq,Bo,Bb,fM.agg,fM.size,hl,if_true];rfl
theorem kW(w):(á 79).run D w=.ok (aX (msF 0 0 0 (η none 0 0)) 0 4) w:=Yl
theorem fT(g:γ->Value)h:∀j,j<4->φ g 0 4 h j=h j:=λj hj=>by have:=qI g (o:=0) h hj;grind
theorem mV(c):∀j,j<4->(wT c j).oneCell'=true:=by
 intro j _;unfold wT msF iV lmV
 repeat' split
 all_goals rfl
theorem aLs(x)(ho:o.op=.call { callee:=.builtin .len,args:=#[x],argTypes:=#[72] }){n c}(hx:f x=η ao n c)(w):(β f o).run D w=.ok (.value (H U ((n)))) w:=by unfold β;rw[ho];dsimp only;go_simp
theorem aBQ(x)(ho:o.op=.call { callee:=.builtin .len,args:=#[x],argTypes:=#[101] }){n c}(hx:f x=η ao n c)(w):(β f o).run D w=.ok (.value (H U ((n)))) w:=by unfold β;rw[ho];dsimp only;go_simp
theorem aOh{id fr s kind many}(h:∀(j:γ) c,L[j]?=Y c->jI id fr s kind many c.m=false):fL id fr L s kind many=none:=by unfold fL;rw[List.find?_eq_none];intro c hc;obtain⟨j,hj⟩:=List.getElem?_of_mem hc;grind
theorem aOi{id fr s kind many}{i:γ}(hc:L[i]?=Y c)(h:∀(j) c,j<i->L[j]?=Y c->jI id fr s kind many c.m=false)(hy:jI id fr s kind many c.m=true):fL id fr L s kind many=Y c:=by
 unfold fL;induction L generalizing i with
 |nil=>simp at hc
 |cons x L ih=>
  rw[List.find?_cons];cases i with
  |zero=>simp at hc;subst hc;rw[hy]
  |succ i=>rw[h 0 x Z rfl];grind
def fstV:τ Lm->Value
 |some c=>Ξ #[lmV c,ε true]
 |none=>Ξ #[η none 0 0,ε false]
set_option maxHeartbeats 1000000 in
theorem oG(n)(v)(ao)(cap)(L)(s kind many)(w)(hr:MRd w ao L)(hN:L.length<=140737488351232):Λ D 100 #[jX n v,η ao L.length cap,H U s,H U kind,H U many] w λe w'=>e=Φ (fstV (fL n.id n.fr L s kind many))/\Below w.heap.size w w':=by
 refine bC Tryz.func100 δ 54 δ Yd (λA hs hd hb=>?_);have b0:=hb 0 _ δ;have b1:=hb 1 _ δ;have b2:=hb 2 _ δ;have b3:=hb 3 _ δ;have b4:=hb 4 _ δ;clear hb;refine aD (aG ?_);refine Zb (λw1 m1 k1 z1=>?_);iterate 2 refine Yx ?_
 refine aC<|aH<|aD<|Yx ?_;refine Yq (aBQ _ δ Yf _) ?_;refine Yx ?_;refine aC<|aJ<|bR (λr a W=>∃i:γ,i<=L.length/\L.length-i<=r/\a.tmps.size=54/\a.defers=[]/\a.eval (.tmp 2)=H U s/\a.eval (.tmp 3)=H U kind/\a.eval (.tmp 4)=H U many/\a.eval (.tmp 5)=ζ (Y ⟨w.heap.size,0,none⟩)/\a.eval (.tmp 14)=η ao L.length cap/\a.eval (.tmp 15)=H U (L.length:Int)/\a.eval (.tmp 16)=H U (i:Int)/\(∀j c,j<i->L[j]?=Y c->jI n.id n.fr s kind many c.m=false)/\Vh 43 W w.heap.size 74 74 (ndF n v)/\Below w.heap.size w W) L.length ⟨0,Xz _,Z,YA,YB,Yb,Yb,Yb,Yf,Yf,Yf,Yf,λj c h=>absurd h Z,m1,k1⟩ (λr B W hI=>?_);clear b0 b1 b2 b3 b4 hs hd m1;obtain⟨i,hi,hr2,hs,hd,b2,b3,b4,b5,b14,b15,b16,hne,mn,kB⟩:=hI;have hW:=mn.lt;by_cases hin:i<L.length
 .have hc:=Bf hin;obtain⟨c,ec⟩:∃c,c=L[i]:=⟨_,rfl⟩;rw[<-ec] at hc;obtain⟨bl,of,rfl,hq⟩:=(hr.below kB).1 Z;have hcell:=hq i c hc;have w1:=W;clear w1;refine aD (aG ?_);refine Yx ?_;refine aC<|aH (aS Yf (aR ?_));refine aH (aJ ?_);refine aD<|Yq (nU _ _ rfl Yb Yb rfl hin _) ?_;refine Yq (mE _ δ Yf hcell) ?_;refine Za kW (λw2 m2 k2 z2=>?_);have mn2:=mn.below k2;refine Zs fM m2 (mV _) (λw3 mm3 k3 z3=>?_);have mm3:=Ac mm3 (fT _ _);have mn3:=mn2.kept k3 Z;refine aC<|aD ?_;iterate 3 refine Yx ?_
  by_cases h1:c.m.F=s
  .refine Yq (bK (b:=true) _ _ δ Yf Yf (Xt h1) _) ?_;iterate 5 refine Yx ?_
   by_cases h2:c.m.F≠n.id
   .refine Yq (dO (b:=true) _ _ δ Yf Yf (Xt h2) _) ?_;refine Yq (aK _ _ _ δ Yf Yf _) ?_;iterate 4 refine Yx ?_
    by_cases h3:c.m.K=kind
    .refine Yq (bK (b:=true) _ _ δ Yf Yf (Xt h3) _) ?_;refine Yq (aK _ _ _ δ Yf Yf _) ?_;iterate 5 refine Yx ?_
     by_cases h4:c.m.R=n.fr
     .refine Yq (bK (b:=true) _ _ δ Yf Yf (Xt h4) _) ?_;refine Yq (aK _ _ _ δ Yf Yf _) ?_;iterate 5 refine Yx ?_
      by_cases h5:(c.m.L.length:Int)=many
      .refine Yq (bK (b:=true) _ _ δ Yf Yf (Xt h5) _) ?_;refine Yq (aK _ _ _ δ Yf Yf _) ?_;refine aC<|aS Yf ?_;refine aD ?_;iterate 4 refine Yx ?_
       refine aC<|aQ ?_;simp only[Nx,Exit.inBlock,Exit.then];refine aN YB (iP δ Yf Yf) ⟨?_,aF (kB.trans (k2.mono kB.size)) k3 kB.size (Ap kB.size k2.size)⟩;rw[aOi hc hne (by unfold jI;rw[Xt h1,Xt h2,Xt h3,Xt h4,Xt h5];rfl)];rfl
      refine Yq (bK (b:=false) _ _ δ Yf Yf (Xf h5) _) ?_;refine Yq (aK _ _ _ δ Yf Yf _) ?_;refine aC<|aO Yf (gT ?_);refine aI ?_;iterate 2 refine Yx ?_
      refine aU ⟨L.length-(i+1),Z,i+1,Z,Z,YA,YB,Yb,Yb,Yb,Yb,Yb,Yb,(Ye δ).trans YC,?_,mn3,aF (kB.trans (k2.mono kB.size)) k3 kB.size (Ap kB.size k2.size)⟩;exact λj c' hj hc'=>by
       by_cases e:j=i
       .subst e;rw[hc] at hc';cases hc';unfold jI;rw[Xf h5];simp
       exact hne j c' Z hc'
     refine Yq (bK (b:=false) _ _ δ Yf Yf (Xf h4) _) ?_;refine Yq (aK _ _ _ δ Yf Yf _) ?_;refine Yx ?_;iterate 5 refine Yu ?_
     refine Yq (aM _ _ _ δ Yf (aL _ _) _) ?_;refine aC<|aO Yf (gT ?_);refine aI ?_;iterate 2 refine Yx ?_
     refine aU ⟨L.length-(i+1),Z,i+1,Z,Z,YA,YB,Yb,Yb,Yb,Yb,Yb,Yb,(Ye δ).trans YC,?_,mn3,aF (kB.trans (k2.mono kB.size)) k3 kB.size (Ap kB.size k2.size)⟩;exact λj c' hj hc'=>by
      by_cases e:j=i
      .subst e;rw[hc] at hc';cases hc';unfold jI;rw[Xf h4];simp
      exact hne j c' Z hc'
    refine Yq (bK (b:=false) _ _ δ Yf Yf (Xf h3) _) ?_;refine Yq (aK _ _ _ δ Yf Yf _) ?_;refine Yx ?_;iterate 5 refine Yu ?_
    refine Yq (aM _ _ _ δ Yf (aL _ _) _) ?_;refine Yx ?_;iterate 5 refine Yu ?_
    refine Yq (aM _ _ _ δ Yf (aL _ _) _) ?_;refine aC<|aO Yf (gT ?_);refine aI ?_;iterate 2 refine Yx ?_
    refine aU ⟨L.length-(i+1),Z,i+1,Z,Z,YA,YB,Yb,Yb,Yb,Yb,Yb,Yb,(Ye δ).trans YC,?_,mn3,aF (kB.trans (k2.mono kB.size)) k3 kB.size (Ap kB.size k2.size)⟩;exact λj c' hj hc'=>by
     by_cases e:j=i
     .subst e;rw[hc] at hc';cases hc';unfold jI;rw[Xf h3];simp
     exact hne j c' Z hc'
   refine Yq (dO (b:=false) _ _ δ Yf Yf (Xf h2) _) ?_;refine Yq (aK _ _ _ δ Yf Yf _) ?_;refine Yx ?_;iterate 4 refine Yu ?_
   refine Yq (aM _ _ _ δ Yf (aL _ _) _) ?_;refine Yx ?_;iterate 5 refine Yu ?_
   refine Yq (aM _ _ _ δ Yf (aL _ _) _) ?_;refine Yx ?_;iterate 5 refine Yu ?_
   refine Yq (aM _ _ _ δ Yf (aL _ _) _) ?_;refine aC<|aO Yf (gT ?_);refine aI ?_;iterate 2 refine Yx ?_
   refine aU ⟨L.length-(i+1),Z,i+1,Z,Z,YA,YB,Yb,Yb,Yb,Yb,Yb,Yb,(Ye δ).trans YC,?_,mn3,aF (kB.trans (k2.mono kB.size)) k3 kB.size (Ap kB.size k2.size)⟩;exact λj c' hj hc'=>by
    by_cases e:j=i
    .subst e;rw[hc] at hc';cases hc';unfold jI;rw[Xf h2];simp
    exact hne j c' Z hc'
  refine Yq (bK (b:=false) _ _ δ Yf Yf (Xf h1) _) ?_;refine Yx ?_;iterate 5 refine Yu ?_
  refine Yq (aM _ _ _ δ Yf (aL _ _) _) ?_;refine Yx ?_;iterate 4 refine Yu ?_
  refine Yq (aM _ _ _ δ Yf (aL _ _) _) ?_;refine Yx ?_;iterate 5 refine Yu ?_
  refine Yq (aM _ _ _ δ Yf (aL _ _) _) ?_;refine Yx ?_;iterate 5 refine Yu ?_
  refine Yq (aM _ _ _ δ Yf (aL _ _) _) ?_;refine aC<|aO Yf (gT ?_);refine aI ?_;iterate 2 refine Yx ?_
  refine aU ⟨L.length-(i+1),Z,i+1,Z,Z,YA,YB,Yb,Yb,Yb,Yb,Yb,Yb,(Ye δ).trans YC,?_,mn3,aF (kB.trans (k2.mono kB.size)) k3 kB.size (Ap kB.size k2.size)⟩;exact λj c' hj hc'=>by
   by_cases e:j=i
   .subst e;rw[hc] at hc';cases hc';unfold jI;rw[Xf h1];simp
   exact hne j c' Z hc'
 have hin2:¬(i:Int)<(L.length:Int):=Z;refine aD (aG ?_);refine Yx ?_;refine aC<|aH (aO Yf (bL (dQ ?_)));refine aD ?_;iterate 2 refine Yx ?_
 refine aC<|aQ<|aN YB (iP rfl Yf Yf) ⟨?_,kB⟩;rw[aOh (λj c hj=>hne j c (by have:=(Gi.1 hj).1;omega) hj)];rfl
theorem sD(n)(v)(w):Λ D 99 #[jX n v] w λe w'=>e=Φ (ε (kR n.id))/\Below w.heap.size w w':=by
 unfold kR;by_cases h1:n.id<0
 .rw[Xt h1,Bool.true_or];refine bC Tryz.func99 δ 11 δ Yd (λA hs hd hb=>?_);have b0:=hb 0 _ δ;clear hb;refine aD (aG ?_);refine bI δ Yw (λK hK=>xZ _ _ _ δ Yb Yc (λw1 m1 k1 z1=>hK _ _ ?_));refine Yq (mI _ δ δ _) ?_;refine aC<|aD ?_;iterate 2 refine Yx ?_
  refine Yq (dH (b:=true) _ _ δ Yf δ (Xt h1) _) ?_;refine Yx ?_;iterate 3 refine Yu ?_
  refine Yq (aK _ _ _ δ Yf δ _) ?_;refine Yx ?_;refine aC ?_;exact aQ (aN YB (bS δ Yf) ⟨δ,k1⟩)
 by_cases h2:3<n.id;rw[Xf h1,Xt h2,Bool.or_true];refine bC Tryz.func99 δ 11 δ Yd (λA hs hd hb=>?_);have b0:=hb 0 _ δ;clear hb;refine aD (aG ?_);refine bI δ Yw (λK hK=>xZ _ _ _ δ Yb Yc (λw1 m1 k1 z1=>hK _ _ ?_));refine Yq (mI _ δ δ _) ?_;refine aC<|aD ?_;iterate 2 refine Yx ?_
 refine Yq (dH (b:=false) _ _ δ Yf δ (Xf h1) _) ?_;iterate 3 refine Yx ?_
 refine Yq (bW (b:=true) _ _ δ Yf δ (Xt h2) _) ?_;rotate_left;rw[Xf h1,Xf h2,Bool.or_false];refine bC Tryz.func99 δ 11 δ Yd (λA hs hd hb=>?_);have b0:=hb 0 _ δ;clear hb;refine aD (aG ?_);refine bI δ Yw (λK hK=>xZ _ _ _ δ Yb Yc (λw1 m1 k1 z1=>hK _ _ ?_));refine Yq (mI _ δ δ _) ?_;refine aC<|aD ?_;iterate 2 refine Yx ?_
 refine Yq (dH (b:=false) _ _ δ Yf δ (Xf h1) _) ?_;iterate 3 refine Yx ?_
 refine Yq (bW (b:=false) _ _ δ Yf δ (Xf h2) _) ?_;rotate_left;all_goals
  refine Yq (aM _ _ _ δ Yf Yf _) ?_;refine Yx ?_;refine aC ?_;exact aQ (aN YB (bS δ Yf) ⟨δ,k1⟩)
def bA(n:Nd)(i:γ):Bool:=n.vA.getD i false
theorem fH(g:γ->Value)h:∀j,j<74->φ g 0 74 h j=h j:=λj hj=>by have:=qI g (o:=0) h hj;grind
theorem pU(n)(ao)(c)(w)(hs0:Sr w ao n.vA.length c (tF (bA n)))(hl:n.vA.length<=140737488351232):Λ D 52 #[jX n (η ao n.vA.length c)] w λe w'=>∃a' c',e=Φ (jX n (η a' n.vA.length c'))/\w'.ownsRow w.heap.size 4 1 (η a' n.vA.length c') n.vA.length (μ (tF (bA n)) n.vA.length)/\Below w.heap.size w w':=by
 refine bC Tryz.func52 δ 10 δ Yd (λA hs hd hb=>?_);have b0:=hb 0 _ δ;clear hb;refine aD (aG ?_);refine Zb (λw1 m1 k1 z1=>?_);have sr1:=hs0.below k1;refine Za mQ (λw2 m2 k2 z2=>?_);have mn2:=m1.below k2;have sr2:=sr1.below k2;refine aC<|aD ?_;iterate 3 refine Yx ?_
 refine bI δ Yw (λK hK=>?_);refine⟨aCs _ _ _ δ w2.heap.size (Xr _) (η none 0 0) 0 [] δ (Am _ _ _ _) ao n.vA.length c (tF (bA n)) Yf sr2 (λi _=>rfl) Z ?_⟩;intro v3 w3 o3 k3;rw[Ah,Da] at o3;obtain⟨a3,c3,rfl,hc3⟩:=dU o3;have mn3:=mn2.below k3;have mr3:=m2.below k3;refine hK _ _ ?_;clear hK K;iterate 2 refine Yx ?_
 refine lN Yw (λK hK=>iO _ _ _ _ δ aFq Yf Yf mn3 Yc δ δ δ (λw4 mm4 k4 z4=>hK _ ?_));have mn4:=Ac mm4 (NW _ _ _);have mr4:=mr3.kept k4 Z;have ow4:=iJ o3 k4 Z;refine aC<|aD<|Yx ?_;refine Zs bJ mr4 (bQ _ _ _ _) (λw5 mm5 k5 z5=>?_);have mr5:=Ac mm5 (fH _ _);have mn5:=mn4.kept k5 Z;have ow5:=iJ ow4 k5 Z;refine aC<|aQ (aN YB (sW rfl Yf bJ mr5 (Xr _)) ⟨a3,c3,rfl,cO ow5 Z,?_⟩);exact aF (aF ((k1.trans (k2.mono Z)).trans (k3.mono Z)) k4 Z (by have:=k3.size;omega)) k5 Z (by have:=k3.size;omega)
end
section
theorem gX{f g:γ->Value}(h:(à 74).map f=(à 74).map g):∀j,j<74->f j=g j:=by simp_all
theorem ndF_ext{n:Nd}{v}{d d' g g':γ->γ->Int}{u u':γ->Int}{x x':γ->St}(hd:∀s k,s<4->d s k=d' s k)(hg:∀s k,s<4->k<3->g s k=g' s k)(hu:∀k,k<3->u k=u' k)(hx:∀k,k<3->x k=x' k):ndF { n with di:=d,ag:=g,us:=u,ax:=x } v=ndF { n with di:=d',ag:=g',us:=u',ax:=x' } v:=by grind [ndF]
theorem aJe(n)(v)(x):∀j,j<74->κ (ndF n v) (0+1) (H U x) j=ndF { n with fr:=x } v j:=
 gX rfl
theorem aJd(n)(v)d:∀j,j<74->φ (ndF n v) (0+39) 12 (λi=>iV (d (i/3) (i%3))) j=ndF { n with di:=d } v j:=
 gX rfl
theorem aJf(n)(v)d:∀j,j<74->φ (ndF n v) (0+51) 4 (λi=>iV (d i)) j=ndF { n with he:=d } v j:=
 gX rfl
theorem aJc(n)(v)(x):∀j,j<74->κ (ndF n v) (0+70) (H U x) j=ndF { n with dg:=x } v j:=
 gX rfl
theorem aTR(n)(v)(r):∀j,j<74->φ (ndF n v) (0+27) 12 (dJ r) j=ndF { n with rl:=r } v j:=
 gX rfl
theorem aTT(n)(v u)(x)(b)(l):∀j,j<74->φ (ndF n v) (0+71) 3 (λi=>if i=0 then iV x else if i=1 then ε b else u) j=ndF { n with vX:=x,vS:=b,vA:=l } u j:=
 gX rfl
theorem aQo(n)(v)(x):∀j,j<74->κ (ndF n v) (0+51+0*1) (H U x) j=ndF { n with he:=λs=>if s=0 then x else n.he s } v j:=
 gX rfl
theorem aQp(n)(v)(x):∀j,j<74->κ (ndF n v) (0+51+1*1) (H U x) j=ndF { n with he:=λs=>if s=1 then x else n.he s } v j:=
 gX rfl
theorem aQq(n)(v)(x):∀j,j<74->κ (ndF n v) (0+51+2*1) (H U x) j=ndF { n with he:=λs=>if s=2 then x else n.he s } v j:=
 gX rfl
theorem aQr(n)(v)(x):∀j,j<74->κ (ndF n v) (0+51+3*1) (H U x) j=ndF { n with he:=λs=>if s=3 then x else n.he s } v j:=
 gX rfl
theorem FD(n)(v)(x)(i)(hi:i<4):∀j,j<74->κ (ndF n v) (0+51+i*1) (H U x) j=ndF { n with he:=λs=>if s=i then x else n.he s } v j:=by
 have:i=0\/i=1\/i=2\/i=3:=Z;rcases this with rfl|rfl|rfl|rfl
 .exact aQo n v x
 .exact aQp n v x
 .exact aQq n v x
 exact aQr n v x
theorem aQs(n)(v)(x):∀j,j<74->κ (ndF n v) (0+67+0*1) (H U x) j=ndF { n with us:=λs=>if s=0 then x else n.us s } v j:=
 gX rfl
theorem aQt(n)(v)(x):∀j,j<74->κ (ndF n v) (0+67+1*1) (H U x) j=ndF { n with us:=λs=>if s=1 then x else n.us s } v j:=
 gX rfl
theorem aQu(n)(v)(x):∀j,j<74->κ (ndF n v) (0+67+2*1) (H U x) j=ndF { n with us:=λs=>if s=2 then x else n.us s } v j:=
 gX rfl
theorem aMD(n)(v)(x)(i)(hi:i<3):∀j,j<74->κ (ndF n v) (0+67+i*1) (H U x) j=ndF { n with us:=λs=>if s=i then x else n.us s } v j:=by
 have:i=0\/i=1\/i=2:=Z;rcases this with rfl|rfl|rfl
 .exact aQs n v x
 .exact aQt n v x
 exact aQu n v x
theorem aQk(n)(v)(d:γ->Int):∀j,j<74->φ (ndF n v) (0+39+0*3) 3 (λk=>iV (d k)) j=ndF { n with di:=λs a=>if s=0 then d a else n.di s a } v j:=
 gX rfl
theorem aQl(n)(v)(d:γ->Int):∀j,j<74->φ (ndF n v) (0+39+1*3) 3 (λk=>iV (d k)) j=ndF { n with di:=λs a=>if s=1 then d a else n.di s a } v j:=
 gX rfl
theorem aQm(n)(v)(d:γ->Int):∀j,j<74->φ (ndF n v) (0+39+2*3) 3 (λk=>iV (d k)) j=ndF { n with di:=λs a=>if s=2 then d a else n.di s a } v j:=
 gX rfl
theorem aQn(n)(v)(d:γ->Int):∀j,j<74->φ (ndF n v) (0+39+3*3) 3 (λk=>iV (d k)) j=ndF { n with di:=λs a=>if s=3 then d a else n.di s a } v j:=
 gX rfl
theorem PD(n)(v)(d:γ->Int)(i)(hi:i<4):∀j,j<74->φ (ndF n v) (0+39+i*3) 3 (λk=>iV (d k)) j=ndF { n with di:=λs a=>if s=i then d a else n.di s a } v j:=by
 have:i=0\/i=1\/i=2\/i=3:=Z;rcases this with rfl|rfl|rfl|rfl
 .exact aQk n v d
 .exact aQl n v d
 .exact aQm n v d
 exact aQn n v d
theorem aQf(n)(v)(s):∀j,j<74->φ (ndF n v) (0+6+0*7) 7 (fJ s) j=ndF { n with ax:=λa=>if a=0 then s else n.ax a } v j:=
 gX rfl
theorem aQg(n)(v)(s):∀j,j<74->φ (ndF n v) (0+6+1*7) 7 (fJ s) j=ndF { n with ax:=λa=>if a=1 then s else n.ax a } v j:=
 gX rfl
theorem aQh(n)(v)(s):∀j,j<74->φ (ndF n v) (0+6+2*7) 7 (fJ s) j=ndF { n with ax:=λa=>if a=2 then s else n.ax a } v j:=
 gX rfl
theorem vQ(n)(v)(s)(i)(hi:i<3):∀j,j<74->φ (ndF n v) (0+6+i*7) 7 (fJ s) j=ndF { n with ax:=λa=>if a=i then s else n.ax a } v j:=by
 have:i=0\/i=1\/i=2:=Z;rcases this with rfl|rfl|rfl
 .exact aQf n v s
 .exact aQg n v s
 exact aQh n v s
theorem aMq(n)(v)(x):∀j,j<74->κ (ndF n v) (0+55+0*3+0*1) (H U x) j=ndF { n with ag:=λs k=>if s=0/\k=0 then x else n.ag s k } v j:=
 gX rfl
theorem aMr(n)(v)(x):∀j,j<74->κ (ndF n v) (0+55+0*3+1*1) (H U x) j=ndF { n with ag:=λs k=>if s=0/\k=1 then x else n.ag s k } v j:=
 gX rfl
theorem aMs(n)(v)(x):∀j,j<74->κ (ndF n v) (0+55+0*3+2*1) (H U x) j=ndF { n with ag:=λs k=>if s=0/\k=2 then x else n.ag s k } v j:=
 gX rfl
theorem aMt(n)(v)(x):∀j,j<74->κ (ndF n v) (0+55+1*3+0*1) (H U x) j=ndF { n with ag:=λs k=>if s=1/\k=0 then x else n.ag s k } v j:=
 gX rfl
theorem aMu(n)(v)(x):∀j,j<74->κ (ndF n v) (0+55+1*3+1*1) (H U x) j=ndF { n with ag:=λs k=>if s=1/\k=1 then x else n.ag s k } v j:=
 gX rfl
theorem aMv(n)(v)(x):∀j,j<74->κ (ndF n v) (0+55+1*3+2*1) (H U x) j=ndF { n with ag:=λs k=>if s=1/\k=2 then x else n.ag s k } v j:=
 gX rfl
theorem aMw(n)(v)(x):∀j,j<74->κ (ndF n v) (0+55+2*3+0*1) (H U x) j=ndF { n with ag:=λs k=>if s=2/\k=0 then x else n.ag s k } v j:=
 gX rfl
theorem aMx(n)(v)(x):∀j,j<74->κ (ndF n v) (0+55+2*3+1*1) (H U x) j=ndF { n with ag:=λs k=>if s=2/\k=1 then x else n.ag s k } v j:=
 gX rfl
theorem aMy(n)(v)(x):∀j,j<74->κ (ndF n v) (0+55+2*3+2*1) (H U x) j=ndF { n with ag:=λs k=>if s=2/\k=2 then x else n.ag s k } v j:=
 gX rfl
theorem aMz(n)(v)(x):∀j,j<74->κ (ndF n v) (0+55+3*3+0*1) (H U x) j=ndF { n with ag:=λs k=>if s=3/\k=0 then x else n.ag s k } v j:=
 gX rfl
theorem aMA(n)(v)(x):∀j,j<74->κ (ndF n v) (0+55+3*3+1*1) (H U x) j=ndF { n with ag:=λs k=>if s=3/\k=1 then x else n.ag s k } v j:=
 gX rfl
theorem aMB(n)(v)(x):∀j,j<74->κ (ndF n v) (0+55+3*3+2*1) (H U x) j=ndF { n with ag:=λs k=>if s=3/\k=2 then x else n.ag s k } v j:=
 gX rfl
theorem aMC(n)(v)(x)(i a)(hi:i<4)(ha:a<3):∀j,j<74->κ (ndF n v) (0+55+i*3+a*1) (H U x) j=ndF { n with ag:=λs k=>if s=i/\k=a then x else n.ag s k } v j:=by
 have h1:i=0\/i=1\/i=2\/i=3:=Z;have h2:a=0\/a=1\/a=2:=Z;rcases h1 with rfl|rfl|rfl|rfl<;>rcases h2 with rfl|rfl|rfl
 .exact aMq n v x
 .exact aMr n v x
 .exact aMs n v x
 .exact aMt n v x
 .exact aMu n v x
 .exact aMv n v x
 .exact aMw n v x
 .exact aMx n v x
 .exact aMy n v x
 .exact aMz n v x
 .exact aMA n v x
 exact aMB n v x
end
section
open Go.RowKit
structure NdOK (n:Nd):Prop where
 id:ν n.id
 fr:ν n.fr
 tn:n.tn.Ok
 ax:∀a,(n.ax a).Ok
 rM:∀i,ν (n.rl.M i)
 rJ:∀i,ν (n.rl.J i)
 di:∀s a,ν (n.di s a)
 he:∀s,ν (n.he s)
 ag:∀s a,ν (n.ag s a)
 us:∀a,ν (n.us a)
 dg:ν n.dg
 vX:ν n.vX
 vA:n.vA.length<=140737488351232
def zX(w:ι)(n:Nd)(ao:τ υ)(c:γ):Prop:=Sr w ao n.vA.length c (tF (bA n))
def sM(B:γ)(w:ι)(n:Nd)(ao:τ υ)(c:γ):Prop:=w.ownsRow B 4 1 (η ao n.vA.length c) n.vA.length (μ (tF (bA n)) n.vA.length)
def lsV(m:Ms)(v:Value):Value:=aX (msF m.K m.F m.R v) 0 4
def BU(B:γ)(w:ι)(m:Ms)(ao:τ υ)(c:γ):Prop:=w.ownsRow B 3 1 (η ao m.L.length c) m.L.length (μ (iF (gL m.L)) m.L.length)
def aQP(fn:γ):Prop:=∀(n) ao c frame rd w,NdOK n->zX w n ao c->ν frame->(∀a,ν (rd a))->
 Λ D fn #[jX n (η ao n.vA.length c),H U frame,aX (λa=>iV (rd a)) 0 3] w λe w'=>∃a' c' a2 c2,e=Φ (Ξ #[jX (senN n frame rd) (η a' n.vA.length c'),lsV (mO n frame rd) (η a2 (mO n frame rd).L.length c2)])/\sM w.heap.size w' n a' c'/\BU w.heap.size w' (mO n frame rd) a2 c2/\Below w.heap.size w w'
def zY(N:Nd->ψ Ms->Nd)(M:Nd->ψ Ms->Ms)(fn:γ):Prop:=∀(n) ao c mo mc L w,NdOK n->zX w n ao c->MRd w mo L->L.length<=140737488351232->L.length<=mc->(∀m,m∈L->∀i,ν (gL m.m.L i))->
 Λ D fn #[jX n (η ao n.vA.length c),η mo L.length mc] w λe w'=>∃a' c' a2 c2,e=Φ (Ξ #[jX (N n (L.map Lm.m)) (η a' (N n (L.map Lm.m)).vA.length c'),lsV (M n (L.map Lm.m)) (η a2 (M n (L.map Lm.m)).L.length c2)])/\sM w.heap.size w' (N n (L.map Lm.m)) a' c'/\BU w.heap.size w' (M n (L.map Lm.m)) a2 c2/\Below w.heap.size w w'
theorem QC(x)(w):(ê 52 #[x]).run D w=.ok (.enter 52 #[x]) w:=Yh
theorem QE(x)(w):(ê 99 #[x]).run D w=.ok (.enter 99 #[x]) w:=Yh
theorem pQ(x y z u v)(w):(ê 100 #[x,y,z,u,v]).run D w=.ok (.enter 100 #[x,y,z,u,v]) w:=Yh
theorem aCx(w):(á 38).run D w=.ok (aX (λ_=>iV 0) 0 12) w:=Yl
section
variable {f:Δ->Value} {o:ρ}
theorem oH(ho:o.op=.build 79 #[])(w):(β f o).run D w=.ok (.value (aX (msF 0 0 0 (η none 0 0)) 0 4)) w:=by go_simp;rfl
variable{ao:τ υ}
theorem rH(a b c d)(ho:o.op=.build 79 #[(0,a),(1,b),(2,c),(3,d)]){K F R}{n q}(h0:f a=H U K)(h1:f b=H U F)(h2:f c=H U R)(h3:f d=η ao n q)(w):(β f o).run D w=.ok (.value (aX (msF K F R (η ao n q)) 0 4)) w:=by unfold β;rw[ho];go_simp;rfl
theorem aIn(a b c)(ho:o.op=.build 79 #[(0,a),(1,b),(2,c)]){K F R}(h0:f a=H U K)(h1:f b=H U F)(h2:f c=H U R)(w):(β f o).run D w=.ok (.value (aX (msF K F R (η none 0 0)) 0 4)) w:=by unfold β;rw[ho];go_simp;rfl
theorem aBM(ho:o.op=.build 34 #[])(w):(β f o).run D w=.ok (.value (aX (λ_=>iV 0) 0 4)) w:=by go_simp;rfl
theorem OJ(a b c)(ho:o.op=.build 37 #[(0,a),(1,b),(2,c)]){g:γ->Int}(h0:f a=H U (g 0))(h1:f b=H U (g 1))(h2:f c=H U (g 2))(w):(β f o).run D w=.ok (.value (aX (λi=>iV (g i)) 0 3)) w:=by unfold β;rw[ho];go_simp;rfl
end
variable{K:Γ->ι->Prop}{Q:Exit->Γ->ι->Prop}{a:Γ}{o:ρ}
theorem LJ(w)(x y z)(ho:o.op=.buildSlice 72 3 #[(0,x),(1,y),(2,z)]){g:γ->Int}(hx:a.eval x=H U (g 0))(hy:a.eval y=H U (g 1))(hz:a.eval z=H U (g 2))(h:∀w',Vh 3 w' w.heap.size 3 3 (λi=>iV (g i))->Below w.heap.size w w'->w'.heap.size=w.heap.size+1->K (a.put o.dst (η (Y ⟨w.heap.size,0,none⟩) 3 3)) w'):WpI D o a w K Q:=by
 have hh:=h (w.alloc (π #[H U (g 0),H U (g 1),H U (g 2)] 3)) (Cf (λi=>iV (g i)) 3 Yc (by show (w.heap.push _)[w.heap.size]?=_;rw[Bt];rfl)) (bU _ _) (fA _ _);have e:(β a.eval o).run D w=.ok (.value (η (Y ⟨w.heap.size,0,none⟩) 3 3)) (w.alloc (π #[H U (g 0),H U (g 1),H U (g 2)] 3)):=by generalize a.eval=f at hx hy hz;unfold β;rw[ho];simp only[Ay,Aw,Az];rw[hx,hy,hz];go_simp
 refine⟨?_⟩;unfold Θ;rw[e];exact hh
theorem BP(w)(x)(ho:o.op=.buildSlice 72 1 #[(0,x)]){g}(hx:a.eval x=H U g)(h:∀w',Vh 3 w' w.heap.size 1 1 (λ_=>iV g)->Below w.heap.size w w'->w'.heap.size=w.heap.size+1->K (a.put o.dst (η (Y ⟨w.heap.size,0,none⟩) 1 1)) w'):WpI D o a w K Q:=by
 have hh:=h (w.alloc (π #[H U g] 3)) (Cf (λ_=>iV g) 1 Yc (by show (w.heap.push _)[w.heap.size]?=_;rw[Bt];rfl)) (bU _ _) (fA _ _);have e:(β a.eval o).run D w=.ok (.value (η (Y ⟨w.heap.size,0,none⟩) 1 1)) (w.alloc (π #[H U g] 3)):=by generalize a.eval=f at hx;unfold β;rw[ho];simp only[Ay,Aw,Az];rw[hx];go_simp
 refine⟨?_⟩;unfold Θ;rw[e];exact hh
theorem fV(K F R)(ao)(n c):∀j,j<4->(msF K F R (η ao n c) j).oneCell'=true:=by
 intro j _;unfold msF iV
 repeat' split
 all_goals rfl
theorem tQ{x}(h:kR x=false):0<=x/\x<=3:=by unfold kR at h;grind
section
variable {f:Δ->Value} {o:ρ}
theorem nD(x)(ho:o.op=.extract x 0){u v}(hx:f x=Ξ #[u,v])(w):(β f o).run D w=.ok (.value u) w:=Ykq
theorem nE(x)(ho:o.op=.extract x 1){u v}(hx:f x=Ξ #[u,v])(w):(β f o).run D w=.ok (.value v) w:=Ykq
variable{a:υ}
theorem dF(x y)(ho:o.op=.indexAddr 72 x y){n cap i:γ}{z}(hx:f x=η (Y a) n cap)(hy:f y=H U z)(hz:z=(i))(hi:i<n)(w):(β f o).run D w=.ok (.value (ζ (Y (a.add i)))) w:=by go_simp
theorem dG(x)(ho:o.op=.load 3 x){v}(hx:f x=ζ (Y a)){w}(hc:w.cell? a=Y (H U v)):(β f o).run D w=.ok (.value (H U v)) w:=Yg
theorem DU(x)(ho:o.op=.slice 34 x none none none){b off}(hx:f x=ζ (Y ⟨b,off,none⟩))(w):(β f o).run D w=.ok (.value (η (Y ⟨b,off,none⟩) 4 4)) w:=Yg
end
theorem aCL(x y)(w):(ê 164 #[x,y]).run D w=.ok (.enter 164 #[x,y]) w:=Yh
variable{c:Lm}
theorem qD{id fr s kind many}{L}(h:fL id fr L s kind many=Y c):c∈L/\jI id fr s kind many c.m=true:=by unfold fL at h;grind
theorem vZ{id fr s kind many}{m}(h:jI id fr s kind many m=true):m.L.length=many:=by unfold jI at h;grind
variable{w:ι}
theorem LvRd.at(h:LvRd w c)(hl:0<c.m.L.length):∃y,c.ao=Y y/\∀i,i<c.m.L.length->w.cell? (y.add i)=Y (H U (gL c.m.L i)):=by
 rcases h.1 with ⟨_,h0,_⟩|⟨y,e,hy⟩
 .omega
 exact⟨y,e,λi hi=>hy i hi⟩
theorem he_row{b}{n}{v}(h:Vh 43 w b 74 74 (ndF n v)):Sr w (Y ⟨b,0+51,none⟩) 4 4 (iF n.he):=by
 refine Ab ⟨_,δ,λi hi=>?_⟩;rw[kC];have:=h.cell (i:=0+51+i) Z;rw[this]
 match i,hi with
 |0,_=>rfl
 |1,_=>rfl
 |2,_=>rfl
 |3,_=>rfl
theorem iM:ω D 31 7:=Bg _ Tryz.underlying31 rfl Yl
theorem gJ:ω D 36 12:=Bg _ Tryz.underlying36 rfl Yl
theorem xE(w):(á 31).run D w=.ok (aX (fJ St.nil') 0 7) w:=Yl
section
variable {f:Δ->Value} {o:ρ}
variable{u v:Int}
theorem EH(x y)(ho:o.op=.binOp .mul 3 x y 3)(hx:f x=H U u)(hy:f y=H U v)(w):(β f o).run D w=.ok (.value (H U (wrap64 (u*v)))) w:=by go_simp;rw[Db];unfold wrap64;omega
theorem OI(x y)(ho:o.op=.binOp .add 3 x y 3)(hx:f x=H U u)(hy:f y=H U v)(w):(β f o).run D w=.ok (.value (H U (wrap64 (u+v)))) w:=by go_simp;rw[Db];unfold wrap64;omega
theorem rO(x y)(ho:o.op=.binOp .mul 3 x y 3)(hx:f x=H U u)(hy:f y=H U v)(h1: -9223372036854775808<=u*v)(h2:u*v<=9223372036854775807)(w):(β f o).run D w=.ok (.value (H U (u*v))) w:=by
 rw[EH x y ho hx hy w];have:wrap64 (u*v)=u*v:=by unfold wrap64;omega
 rw[this]
theorem fG{b}(x y)(ho:o.op=.binOp .geq 3 x y 3)(hx:f x=H U u)(hy:f y=H U v)(hb:decide (v<=u)=b)(w):(β f o).run D w=.ok (.value (ε b)) w:=by go_simp
theorem cZ{P}(ty)(x)(ho:o.op=.load ty x){b k n N cap}{t}{g h:γ->Value}(T:ω P ty n)(hx:f x=ζ (Y ⟨b,k,none⟩))(hm:Vh t w b N cap g)(hn:k+n<=N)(he:∀j,j<n->g (k+j)=h j):(β f o).run P w=.ok (.value (aX h 0 n)) w:=by
 rw[bE ty x ho T hx hm hn];have:aX g k n=aX h 0 n:=by unfold aX;congr 1;congr 1;apply Cw;grind
 rw[this]
end
theorem VY(w)(x0 x1 x2 x3 x4 x5 x6)(ho:o.op=.buildSlice 72 7 #[(0,x0),(1,x1),(2,x2),(3,x3),(4,x4),(5,x5),(6,x6)]){g:γ->Int}(h0:a.eval x0=H U (g 0))(h1:a.eval x1=H U (g 1))(h2:a.eval x2=H U (g 2))(h3:a.eval x3=H U (g 3))(h4:a.eval x4=H U (g 4))(h5:a.eval x5=H U (g 5))(h6:a.eval x6=H U (g 6))(h:∀w',Vh 3 w' w.heap.size 7 7 (λi=>iV (g i))->Below w.heap.size w w'->w'.heap.size=w.heap.size+1->K (a.put o.dst (η (Y ⟨w.heap.size,0,none⟩) 7 7)) w'):WpI D o a w K Q:=by
 have hh:=h (w.alloc (π #[H U (g 0),H U (g 1),H U (g 2),H U (g 3),H U (g 4),H U (g 5),H U (g 6)] 3)) (Cf (λi=>iV (g i)) 7 Yc (by show (w.heap.push _)[w.heap.size]?=_;rw[Bt];rfl)) (bU _ _) (fA _ _);have e:(β a.eval o).run D w=.ok (.value (η (Y ⟨w.heap.size,0,none⟩) 7 7)) (w.alloc (π #[H U (g 0),H U (g 1),H U (g 2),H U (g 3),H U (g 4),H U (g 5),H U (g 6)] 3)):=by generalize a.eval=f at h0 h1 h2 h3 h4 h5 h6;unfold β;rw[ho];simp only[Ay,Aw,Az];rw[h0,h1,h2,h3,h4,h5,h6];go_simp
 refine⟨?_⟩;unfold Θ;rw[e];exact hh
theorem aBf(n)(v){a}(ha:a<3):∀j,j<7->ndF n v (0+6+a*7+j)=fJ (n.ax a) j:=by grind [ndF]
variable{i:γ}
theorem RI(n)(v)(hi:i<4):ndF n v (0+27+0+i*1)=ε (n.rl.I i):=by grind [ndF,dJ]
theorem aSa(n)(v)(hi:i<4):ndF n v (0+27+4+i*1)=H U (n.rl.M i):=by unfold ndF;rw[ξ Z,ξ Z,ξ Z,å Z];unfold dJ;rw[ξ Z,å Z,show 0+27+4+i*1-27-4=i by omega];rfl
theorem aRZ(n)(v)(hi:i<4):ndF n v (0+27+8+i*1)=H U (n.rl.J i):=by unfold ndF;rw[ξ Z,ξ Z,ξ Z,å Z];unfold dJ;rw[ξ Z,ξ Z,show 0+27+8+i*1-27-8=i by omega];rfl
theorem II(l):l.map iV=μ (iF (gL l)) l.length:=by
 apply Gg;intro i;rw[Bu];rcases Ar i l.length with h|h
 .rw[iU _ h,Bf h];unfold iF gL;rw[Bh,Bf h];rfl
 rw[jQ _ h,Dh h];rfl
theorem gI(s):∀j,j<7->(fJ s j).oneCell'=true:=by
 intro j _;unfold fJ iV
 repeat' split
 all_goals rfl
end
section
open Go.RowKit
def rollC(r:Rl):Array Value:=#[ε (r.I 0),ε (r.I 1),ε (r.I 2),ε (r.I 3),H U (r.M 0),H U (r.M 1),H U (r.M 2),H U (r.M 3),H U (r.J 0),H U (r.J 1),H U (r.J 2),H U (r.J 3)]
def gU(r:Rl):Value:=.agg #[ε (r.I 0),ε (r.I 1),ε (r.I 2),ε (r.I 3),H U (r.M 0),H U (r.M 1),H U (r.M 2),H U (r.M 3),H U (r.J 0),H U (r.J 1),H U (r.J 2),H U (r.J 3)]
def RAt(w:ι)(b:γ)(r:Rl):Prop:=w.heap[b]?=Y (π (rollC r) 36 (0,0))
theorem aDx(r):gU r=.agg (rollC r):=rfl
def aMR(r s:Rl):Prop:=∀i,i<4->r.I i=s.I i/\r.M i=s.M i/\r.J i=s.J i
variable{r:Rl}
theorem aDw{s}(h:aMR r s):rollC r=rollC s:=by unfold rollC;rw[(h 0 Z).1,(h 1 Z).1,(h 2 Z).1,(h 3 Z).1,(h 0 Z).2.1,(h 1 Z).2.1,(h 2 Z).2.1,(h 3 Z).2.1,(h 0 Z).2.2,(h 1 Z).2.2,(h 2 Z).2.2,(h 3 Z).2.2]
section
variable {w w':ι} {b:γ} {r:Rl}
variable{i:γ}
theorem RAt.inn(h:RAt w b r)(hi:i<4):w.cell? ⟨b,i,none⟩=Y (ε (r.I i)):=by have:i=0\/i=1\/i=2\/i=3:=Z;unfold ã;rw[h];rcases this with rfl|rfl|rfl|rfl<;>rfl
theorem RAt.mis(h:RAt w b r)(hi:i<4):w.cell? ⟨b,4+i,none⟩=Y (H U (r.M i)):=by have:i=0\/i=1\/i=2\/i=3:=Z;unfold ã;rw[h];rcases this with rfl|rfl|rfl|rfl<;>rfl
theorem RAt.joi(h:RAt w b r)(hi:i<4):w.cell? ⟨b,8+i,none⟩=Y (H U (r.J i)):=by have:i=0\/i=1\/i=2\/i=3:=Z;unfold ã;rw[h];rcases this with rfl|rfl|rfl|rfl<;>rfl
theorem RAt.c12(h:RAt w b r):w.cell? ⟨b,0,none⟩=Y (ε (r.I 0))/\w.cell? ⟨b,1,none⟩=Y (ε (r.I 1))/\w.cell? ⟨b,2,none⟩=Y (ε (r.I 2))/\w.cell? ⟨b,3,none⟩=Y (ε (r.I 3))/\w.cell? ⟨b,4+0,none⟩=Y (H U (r.M 0))/\w.cell? ⟨b,4+1,none⟩=Y (H U (r.M 1))/\w.cell? ⟨b,4+2,none⟩=Y (H U (r.M 2))/\w.cell? ⟨b,4+3,none⟩=Y (H U (r.M 3))/\w.cell? ⟨b,8+0,none⟩=Y (H U (r.J 0))/\w.cell? ⟨b,8+1,none⟩=Y (H U (r.J 1))/\w.cell? ⟨b,8+2,none⟩=Y (H U (r.J 2))/\w.cell? ⟨b,8+3,none⟩=Y (H U (r.J 3)):=
 ⟨h.inn Z,h.inn Z,h.inn Z,h.inn Z,h.mis Z,h.mis Z,h.mis Z,h.mis Z,h.joi Z,h.joi Z,h.joi Z,h.joi Z⟩
theorem RAt.free(h:RAt w b r)(i):w.frozen? ⟨b,i,none⟩=false:=by unfold RAt at h;simp[World.frozen?,h]
theorem RAt.lt(h:RAt w b r):b<w.heap.size:=Cq h
theorem RAt.same(h:RAt w b r)(e:w'.heap[b]?=w.heap[b]?):RAt w' b r:=e.trans h
theorem RAt.below(h:RAt w b r)(k:Below w.heap.size w w'):RAt w' b r:=h.same (k.block b h.lt)
theorem RAt.under{B}(h:RAt w b r)(k:Below B w w')(hb:b<B):RAt w' b r:=h.same (k.block b hb)
theorem RAt.kept{z}(h:RAt w b r)(k:σ z w w')(hz:b≠z):RAt w' b r:=h.same (k.block b h.lt hz)
theorem RAt.alike{s}(h:RAt w b r)(e:aMR r s):RAt w b s:=by unfold RAt at h ⊢;rw[<-aDw e];exact h
theorem RAt.setI(h:RAt w b r)(hi:i<4)(x):RAt (w.setCell ⟨b,i,none⟩ (ε x)) b ⟨fP r.I i x,r.M,r.J⟩:=by unfold RAt at h ⊢;rw[Bz w b i _ _ (ε x) h];have:i=0\/i=1\/i=2\/i=3:=Z;rcases this with rfl|rfl|rfl|rfl<;>rfl
theorem RAt.setM(h:RAt w b r)(hi:i<4)(x):RAt (w.setCell ⟨b,4+i,none⟩ (H U x)) b ⟨r.I,fP r.M i x,r.J⟩:=by unfold RAt at h ⊢;rw[Bz w b (4+i) _ _ (iY x) h];have:i=0\/i=1\/i=2\/i=3:=Z;rcases this with rfl|rfl|rfl|rfl<;>rfl
theorem RAt.setJ(h:RAt w b r)(hi:i<4)(x):RAt (w.setCell ⟨b,8+i,none⟩ (H U x)) b ⟨r.I,r.M,fP r.J i x⟩:=by unfold RAt at h ⊢;rw[Bz w b (8+i) _ _ (iY x) h];have:i=0\/i=1\/i=2\/i=3:=Z;rcases this with rfl|rfl|rfl|rfl<;>rfl
theorem RAt.new(w:ι)(r):RAt (w.alloc (π (rollC r) 36)) w.heap.size r:=by show (w.heap.push _)[w.heap.size]?=_;rw[Bt]
end
theorem uK(w)(r):∃w1,w1=w.alloc (π #[ε (r.I 0),ε (r.I 1),ε (r.I 2),ε (r.I 3),H U (r.M 0),H U (r.M 1),H U (r.M 2),H U (r.M 3),H U (r.J 0),H U (r.J 1),H U (r.J 2),H U (r.J 3)] 36)/\RAt w1 w.heap.size r/\Below w.heap.size w w1/\w1.heap.size=w.heap.size+1:=
 ⟨_,rfl,RAt.new w r,bU w _,fA w _⟩
variable{b:γ}{f:Δ->Value}{o:ρ}{w:ι}
theorem aFP(x)(ho:o.op=.load 36 x)(hx:f x=ζ (Y ⟨b,0,none⟩))(hm:RAt w b r):(β f o).run D w=.ok (.value (gU r)) w:=by have c0:w.cell? ⟨b,0,none⟩=Y (ε (r.I 0)):=hm.inn (i:=0) Z;have c1:w.cell? ⟨b,1,none⟩=Y (ε (r.I 1)):=hm.inn (i:=1) Z;have c2:w.cell? ⟨b,2,none⟩=Y (ε (r.I 2)):=hm.inn (i:=2) Z;have c3:w.cell? ⟨b,3,none⟩=Y (ε (r.I 3)):=hm.inn (i:=3) Z;have c4:w.cell? ⟨b,4,none⟩=Y (H U (r.M 0)):=hm.mis (i:=0) Z;have c5:w.cell? ⟨b,5,none⟩=Y (H U (r.M 1)):=hm.mis (i:=1) Z;have c6:w.cell? ⟨b,6,none⟩=Y (H U (r.M 2)):=hm.mis (i:=2) Z;have c7:w.cell? ⟨b,7,none⟩=Y (H U (r.M 3)):=hm.mis (i:=3) Z;have c8:w.cell? ⟨b,8,none⟩=Y (H U (r.J 0)):=hm.joi (i:=0) Z;have c9:w.cell? ⟨b,9,none⟩=Y (H U (r.J 1)):=hm.joi (i:=1) Z;have c10:w.cell? ⟨b,10,none⟩=Y (H U (r.J 2)):=hm.joi (i:=2) Z;have c11:w.cell? ⟨b,11,none⟩=Y (H U (r.J 3)):=hm.joi (i:=3) Z;clear hm;unfold β;rw[ho];dsimp only;rw[hx];unfold gU;go_simp
variable{Q:Exit->Γ->ι->Prop}{a:Γ}{ops:Array ρ}{rest:ψ ρ}
theorem kP(w)(hgd:o.guard=none)(x)(ho:o.op=.load 36 x)(hx:a.eval x=ζ (Y ⟨b,0,none⟩))(hm:RAt w b r)(h:wpList D ops Q rest (a.put o.dst (gU r)) w):wpList D ops Q (o::rest) a w:=
 wpList_plain hgd λ_ hK=>by unfold Θ;rw[aFP x ho hx hm];exact hK _ _ h
theorem aFL(P)(g)(t)(old T)(w)(hg:w.heap[g]?=Y (π old t (0,0)))(hs:old.size=T.size)(h1:T.all (·.oneCell')=true):(storeCells ⟨g,0,none⟩ T.toList).run P w=.ok () (w.setRow g T):=by have:=run_storeCells_from (P:=P) g t T.toList 0 old w hg Mm (λv a=>(Array.all_eq_true_iff_forall_mem.1 h1) v (by simpa using a));simp_all
theorem aGi(w){K:Γ->ι->Prop}(x y)(ho:o.op=.store 36 x y){u}(hx:a.eval x=ζ (Y ⟨b,0,none⟩))(hy:a.eval y=gU r)(hm:RAt w b u)(hd:o.dst=none)(h:∀w',RAt w' b r->σ b w w'->K a w'):WpI D o a w K Q:=by refine⟨?_⟩;have d:=aFL uC b 36 (rollC u) (rollC r) w hm δ (by simp[rollC,Value.oneCell']);have f:(rollC r).size=12:=rfl;rw[aDx] at hy;unfold Θ β;rw[ho];dsimp only;rw[hx,hy];go_simp;exact (h _ (setRow_heap w b (rollC u) (rollC r) 36 (0,0) hm) ⟨δ,δ,δ,by simp[World.setRow],λk _ c=>setRow_other w b k _ c⟩)
theorem jD(w)(hgd:o.guard=none)(x y)(ho:o.op=.store 36 x y){u}(hx:a.eval x=ζ (Y ⟨b,0,none⟩))(hy:a.eval y=gU r)(hm:RAt w b u)(hd:o.dst=none)(h:∀w',RAt w' b r->σ b w w'->wpList D ops Q rest a w'):wpList D ops Q (o::rest) a w:=
 wpList_plain hgd λ_ hK=>(aGi w x y ho hx hy hm hd (λw' m k=>hK _ _ (h w' m k))).out
def ChRd(B:γ)(w:ι)(ao:τ υ)(l:ψ (Int×Nat)):Prop:=0<l.length->∃b o,ao=Y ⟨b,o,none⟩/\B<=b/\∀i c,l[i]?=Y c->w.cell? ⟨b,o+i*2,none⟩=Y (H U c.1)/\w.cell? ⟨b,o+i*2+1,none⟩=Y (H U c.2)
variable{B:γ}{ao:τ υ}{l:ψ (Int×Nat)}
theorem ChRd.below{w'}(h:ChRd B w ao l)(k:Below w.heap.size w w'):ChRd B w' ao l:=λa=>by obtain⟨b,o,e,hb,hc⟩:=h a;exact⟨b,o,e,hb,λi c hi=>⟨aP (hc i c hi).1 k,aP (hc i c hi).2 k⟩⟩
theorem ChRd.weak{C}(h:ChRd B w ao l)(e:C<=B):ChRd C w ao l:=λa=>by obtain⟨b,o,h1,hb,hc⟩:=h a;grind
theorem ChRd.young{z}{w'}(h:ChRd B w ao l)(k:σ z w w')(hz:z<B):ChRd B w' ao l:=λa=>by obtain⟨b,o,e,hb,hc⟩:=h a;exact⟨b,o,e,hb,λi c hi=>⟨AC (hc i c hi).1 k (by show b≠z;omega),AC (hc i c hi).2 k (by show b≠z;omega)⟩⟩
def aQI(fn:γ):Prop:=∀w,Λ D fn #[] w λe w'=>e=Φ (gU beginR)/\Below w.heap.size w w'
def aQL(fn:γ):Prop:=∀(r) w,Λ D fn #[gU r] w λe w'=>e=Φ (H U ((cn r.I 4)))/\Below w.heap.size w w'
def aQO(fn:γ):Prop:=∀(r) w,(∀i,i<4->ν (r.M i)/\ν (r.J i))->Λ D fn #[gU r] w λe w'=>e=Φ (ε (mR r))/\Below w.heap.size w w'
def aQQ(fn:γ):Prop:=∀(r) X st ao (n cap) A w,(∀i,i<4->ν (r.M i)/\ν (r.J i))->ν X->n<=140737488351232->n<=cap->Sr w ao n cap (tF A)->
 Λ D fn #[gU r,vdV X st (η ao n cap)] w λe w'=>∃(ao':τ υ) (c':γ),e=Φ (Ξ #[gU (stR r st n A).1,η ao' (stR r st n A).2.1.length c',H U (stR r st n A).2.2])/\ChRd w.heap.size w' ao' (stR r st n A).2.1/\Below w.heap.size w w'
theorem aAY:ω D 41 3:=Bg _ Tryz.underlying41 rfl Yl
theorem QY:ω D 33 4:=Bg _ Gj rfl Yl
theorem TU(w):(á 34).run D w=.ok (aX (λ_=>iV 0) 0 4) w:=Yl
theorem nV(w):(á 36).run D w=.ok (aX (dJ gF) 0 12) w:=Yl
section
variable {f:Δ->Value} {o:ρ}
theorem pI(x)(ho:o.op=.extract x 0){u v s}(hx:f x=Ξ #[u,v,s])(w):(β f o).run D w=.ok (.value u) w:=Ykq
theorem pJ(x)(ho:o.op=.extract x 1){u v s}(hx:f x=Ξ #[u,v,s])(w):(β f o).run D w=.ok (.value v) w:=Ykq
theorem pK(x)(ho:o.op=.extract x 2){u v s}(hx:f x=Ξ #[u,v,s])(w):(β f o).run D w=.ok (.value s) w:=Ykq
theorem nC{b}(x y)(ho:o.op=.binOp .eql 22 x y 22){u v}(hx:f x=H U u)(hy:f y=H U v)(hb:decide (u=v)=b)(w):(β f o).run D w=.ok (.value (ε b)) w:=by have e:(u==v)=b:=Oq;go_simp
end
theorem BH(n)(v):∀j,j<4->ndF n v (0+27+0+j)=tF n.rl.I j:=by
 intro j a;have:=RI n v a
 rwa [Cs] at this
theorem BI(n)(v):∀j,j<12->ndF n v (0+27+j)=dJ n.rl j:=by grind [ndF]
variable{i:γ}
theorem aHI(n)(v)(hi:i<4):ndF n v (0+51+i*1)=H U (n.he i):=by unfold ndF;rw[ξ Z,ξ Z,ξ Z,ξ Z,ξ Z,å Z,show 0+51+i*1-51=i by omega];rfl
def qG(x:Int)(b:Bool)(u:Value)(i:γ):Value:=if i=0 then iV x else if i=1 then ε b else u
theorem aHL(n)(v):∀j,j<3->ndF n v (0+71+j)=qG n.vX n.vS v j:=by
 intro j a
 match j,a with
 |0,_=>rfl
 |1,_=>rfl
 |2,_=>rfl
theorem iH(r):∀j,j<12->(dJ r j).oneCell'=true:=by
 intro j _;unfold dJ iV
 repeat' split
 all_goals rfl
theorem aBp(x)(b)(ao)(n c):∀j,j<3->(qG x b (η ao n c) j).oneCell'=true:=by
 intro j _;unfold qG iV
 repeat' split
 all_goals rfl
theorem QZ:ω D 178 4:=Bg _ Eg rfl Yl
theorem iL:ω D 32 21:=Bg _ Dw rfl Yl
theorem aJt(w):(á 178).run D w=.ok (aX (λ_=>η none 0 0) 0 4) w:=Yl
section
variable {P:Program} {f:Δ->Value} {o:ρ}
variable{g:γ->Value}{z:Int}
theorem nG(ty e)(x y)(ho:o.op=.index ty x y){len}(hu:P.underlying ty=Y (.array len e))(T:ç P e)(hx:f x=aX g 0 len)(hy:f y=H U z)(hz:z=(i))(hi:i<len)(w):(β f o).run P w=.ok (.value (g i)) w:=by subst hz;have h2:(i:Int)<(len:Int):=Z;unfold β;simp only[ho,hx,hy,aX,Instr.index,asIntOf,part,Aq,Bo,Bb,Fq hu];simp[h2,T.agg,T.size,hi]
theorem nH(ty e)(x y)(ho:o.op=.index ty x y){len m N}(hu:P.underlying ty=Y (.array len e))(T:ω P e m)(hx:f x=aX g 0 N)(hN:len*m=N)(hy:f y=H U z)(hz:z=(i))(hi:i<len)(w):(β f o).run P w=.ok (.value (aX g (i*m) m)) w:=by
 subst hz hN;have h2:(i:Int)<(len:Int):=Z;have h3:i*m+m<=len*m:=by have:(i+1)*m<=len*m:=Io m Z;grind
 have hc:(((à (len*m)).map λj=>g (0+j)).toArray).extract (i*m) (i*m+m)=((à m).map λj=>g (i*m+j)).toArray:=by
  refine Array.ext_getElem? (λj=>?_);rw[Array.getElem?_extract,Co,Ao,Ck];by_cases a:j<m
  .rw[å Z,Ho,Bu,Cr Z,Ho,Bu,Cr a];grind
  grind
 unfold β;simp only[ho,hx,hy,aX,Instr.index,asIntOf,Aq,Bo,Bb,Fq hu];rw[å (⟨Z,h2⟩)];simp only[part,Aq,Bo,Bb,T.agg,T.size,if_true,Hm,hc]
end
section
variable {f:Δ->Value} {o:ρ}
variable{off:γ}
theorem yQ(x)(ho:o.op=.slice 37 x none none none)(hx:f x=ζ (Y ⟨b,off,none⟩))(w):(β f o).run D w=.ok (.value (η (Y ⟨b,off,none⟩) 3 3)) w:=Yg
theorem aIv(x)(ho:o.op=.slice 33 x none none none)(hx:f x=ζ (Y ⟨b,off,none⟩))(w):(β f o).run D w=.ok (.value (η (Y ⟨b,off,none⟩) 4 4)) w:=Yg
theorem aIt(x)(ho:o.op=.slice 38 x none none none)(hx:f x=ζ (Y ⟨b,off,none⟩))(w):(β f o).run D w=.ok (.value (η (Y ⟨b,off,none⟩) 4 4)) w:=Yg
end
section
variable {f:Δ->Value} {o:ρ}
variable{u:Int}
theorem O0{b}(x y)(ho:o.op=.binOp .leq 3 x y 3){v}(hx:f x=H U u)(hy:f y=H U v)(hb:decide (u<=v)=b)(w):(β f o).run D w=.ok (.value (ε b)) w:=by go_simp
theorem OP(x y)(ho:o.op=.binOp .rem 3 x y 3)(hx:f x=H U u)(hy:f y=H U 8)(h0:0<=u)(w):(β f o).run D w=.ok (.value (H U (u%8))) w:=by have e:u.tmod 8=u%8:=Iq h0;go_simp
theorem aLG(x y)(ho:o.op=.binOp .rem 3 x y 3)(hx:f x=H U u)(hy:f y=H U 2)(h0:0<=u)(w):(β f o).run D w=.ok (.value (H U (u%2))) w:=by have e:u.tmod 2=u%2:=Iq h0;go_simp
theorem OO(x y)(ho:o.op=.binOp .quo 3 x y 3)(hx:f x=H U u)(hy:f y=H U 8)(h0:0<=u)(h2:u<=9223372036854775807)(w):(β f o).run D w=.ok (.value (H U (u/8))) w:=by
 have e:u.tdiv 8=u/8:=Ir h0;have e2:IntKind.i64.wrap (u/8)=u/8:=by rw[Db];omega
 go_simp
theorem aLI(x y)(ho:o.op=.binOp .shr 3 x y 3){s:γ}(hx:f x=H U u)(hy:f y=H U s)(hs:s<64)(w):(β f o).run D w=.ok (.value (H U (u/2^s))) w:=Yjq
theorem aLf(x y)(ho:o.op=.binOp .and 3 x y 3)(hx:f x=H U u)(hy:f y=H U 1)(h0:0<=u)(h1:u<=15)(w):(β f o).run D w=.ok (.value (H U (u%2))) w:=by
 obtain⟨k,rfl⟩:∃k:γ,u=(k:Int):=⟨u.toNat,Z⟩;have a:k<16:=Z;unfold β;rw[ho];dsimp only;rw[hx,hy]
 match k,a with
 |0,_=>change _=_;kernel_rfl
 |1,_=>change _=_;kernel_rfl
 |2,_=>change _=_;kernel_rfl
 |3,_=>change _=_;kernel_rfl
 |4,_=>change _=_;kernel_rfl
 |5,_=>change _=_;kernel_rfl
 |6,_=>change _=_;kernel_rfl
 |7,_=>change _=_;kernel_rfl
 |8,_=>change _=_;kernel_rfl
 |9,_=>change _=_;kernel_rfl
 |10,_=>change _=_;kernel_rfl
 |11,_=>change _=_;kernel_rfl
 |12,_=>change _=_;kernel_rfl
 |13,_=>change _=_;kernel_rfl
 |14,_=>change _=_;kernel_rfl
 |15,_=>change _=_;kernel_rfl
theorem aIr(ho:o.op=.build 31 #[])(w):(β f o).run D w=.ok (.value (aX (fJ St.nil') 0 7)) w:=by unfold β;rw[ho];go_simp;rfl
theorem aBO(a b c d e g h)(ho:o.op=.build 31 #[(0,a),(1,b),(2,c),(3,d),(4,e),(5,g),(6,h)]){s}(h0:f a=H U s.X)(h1:f b=H U s.V)(h2:f c=H U s.P00)(h3:f d=H U s.P01)(h4:f e=H U s.P11)(h5:f g=ε s.B)(h6:f h=H U s.M)(w):(β f o).run D w=.ok (.value (aX (fJ s) 0 7)) w:=by unfold β;rw[ho];go_simp;rfl
theorem XE(ho:o.op=.build 32 #[])(w):(β f o).run D w=.ok (.value (aX (λj=>fJ St.nil' (j%7)) 0 21)) w:=by unfold β;rw[ho];kernel_rfl
theorem X5(ho:o.op=.build 36 #[])(w):(β f o).run D w=.ok (.value (aX (dJ gF) 0 12)) w:=by go_simp;rfl
theorem aIp(a b)(ho:o.op=.build 36 #[(1,a),(2,b)]){m j:γ->Int}(h0:f a=aX (λi=>iV (m i)) 0 4)(h1:f b=aX (λi=>iV (j i)) 0 4)(w):(β f o).run D w=.ok (.value (aX (dJ ⟨λ_=>false,m,j⟩) 0 12)) w:=by unfold β;rw[ho];simp only[Ay,Aw,Az];rw[h0,h1];kernel_rfl
variable{a:υ}
theorem MO(x y)(ho:o.op=.slice 72 x (Y y) none none){n cap}{z}(hx:f x=η (Y a) n cap)(hy:f y=H U z)(hz:z=(i))(hi:i<=n)(hc:i<cap)(w):(β f o).run D w=.ok (.value (η (Y (a.add i)) (n-i) (cap-i))) w:=by have c:¬cap=i:=Z;go_simp
theorem aIw(x y z)(ho:o.op=.slice 72 x (Y y) (Y z) none){n cap k:γ}{p q}(hx:f x=η (Y a) n cap)(hy:f y=H U p)(hz:f z=H U q)(hp:p=(i))(hq:q=(k))(hi:i<=k)(hk:k<=cap)(hc:i<cap)(w):(β f o).run D w=.ok (.value (η (Y (a.add i)) (k-i) (cap-i))) w:=by have c:¬cap=i:=Z;go_simp
end
instance:θ D 43 0 0:=⟨λho hx w=>Yg⟩
instance:θ D 43 1 1:=⟨λho hx w=>Yg⟩
instance:θ D 43 2 2:=⟨λho hx w=>Yg⟩
instance:θ D 43 3 6:=⟨λho hx w=>Yg⟩
instance:θ D 43 4 27:=⟨λho hx w=>Yg⟩
instance:θ D 43 5 39:=⟨λho hx w=>Yg⟩
instance:θ D 43 6 51:=⟨λho hx w=>Yg⟩
instance:θ D 43 7 55:=⟨λho hx w=>Yg⟩
instance:θ D 43 8 67:=⟨λho hx w=>Yg⟩
instance:θ D 43 9 70:=⟨λho hx w=>Yg⟩
instance:θ D 43 10 71:=⟨λho hx w=>Yg⟩
instance:θ D 79 0 0:=⟨λho hx w=>Yg⟩
instance:θ D 79 1 1:=⟨λho hx w=>Yg⟩
instance:θ D 79 2 2:=⟨λho hx w=>Yg⟩
instance:θ D 79 3 3:=⟨λho hx w=>Yg⟩
instance:θ D 41 0 0:=⟨λho hx w=>Yg⟩
instance:θ D 41 1 1:=⟨λho hx w=>Yg⟩
instance:θ D 41 2 2:=⟨λho hx w=>Yg⟩
instance:θ D 36 0 0:=⟨λho hx w=>Yg⟩
instance:θ D 36 1 4:=⟨λho hx w=>Yg⟩
instance:θ D 36 2 8:=⟨λho hx w=>Yg⟩
instance:θ D 31 0 0:=⟨λho hx w=>Yg⟩
instance:θ D 31 1 1:=⟨λho hx w=>Yg⟩
instance:θ D 31 2 2:=⟨λho hx w=>Yg⟩
instance:θ D 31 3 3:=⟨λho hx w=>Yg⟩
instance:θ D 31 4 4:=⟨λho hx w=>Yg⟩
instance:θ D 31 5 5:=⟨λho hx w=>Yg⟩
instance:θ D 31 6 6:=⟨λho hx w=>Yg⟩
instance:θ D 27 0 0:=⟨λho hx w=>Yg⟩
instance:θ D 27 1 1:=⟨λho hx w=>Yg⟩
instance:θ D 27 2 2:=⟨λho hx w=>Yg⟩
instance:θ D 27 3 3:=⟨λho hx w=>Yg⟩
instance:θ D 57 0 0:=⟨λho hx w=>Yg⟩
instance:θ D 57 1 1:=⟨λho hx w=>Yg⟩
instance:θ D 57 2 2:=⟨λho hx w=>Yg⟩
instance:θ D 57 3 5:=⟨λho hx w=>Yg⟩
instance:θ D 57 4 8:=⟨λho hx w=>Yg⟩
instance:θ D 57 5 9:=⟨λho hx w=>Yg⟩
instance:θ D 57 6 10:=⟨λho hx w=>Yg⟩
instance:θ D 46 0 0:=⟨λho hx w=>Yg⟩
instance:θ D 46 1 1:=⟨λho hx w=>Yg⟩
instance:θ D 52 0 0:=⟨λho hx w=>Yg⟩
instance:θ D 52 1 12:=⟨λho hx w=>Yg⟩
instance:θ D 52 2 13:=⟨λho hx w=>Yg⟩
instance:θ D 81 0 0:=⟨λho hx w=>Yg⟩
instance:θ D 81 1 1:=⟨λho hx w=>Yg⟩
instance:θ D 81 2 2:=⟨λho hx w=>Yg⟩
instance:θ D 104 0 0:=⟨λho hx w=>Yg⟩
instance:θ D 104 1 297:=⟨λho hx w=>Yg⟩
instance:θ D 104 2 298:=⟨λho hx w=>Yg⟩
instance:θ D 104 3 299:=⟨λho hx w=>Yg⟩
instance:ο D 43 74:=⟨Bg _ Tryz.underlying43 rfl Yl⟩
instance:ο D 79 4:=⟨Bg _ Tryz.underlying79 rfl Yl⟩
instance:ο D 41 3:=⟨Bg _ Tryz.underlying41 rfl Yl⟩
instance:ο D 36 12:=⟨Bg _ Tryz.underlying36 rfl Yl⟩
instance:ο D 31 7:=⟨Bg _ Tryz.underlying31 rfl Yl⟩
instance:ο D 27 4:=⟨Bg _ Tryz.underlying27 rfl Yl⟩
instance:ο D 57 14:=⟨Bg _ Tryz.underlying57 rfl Yl⟩
instance:ο D 46 297:=⟨Bg _ Tryz.underlying46 rfl Yl⟩
instance:ο D 52 14:=⟨Bg _ Tryz.underlying52 rfl Yl⟩
instance:ο D 81 3:=⟨Bg _ Tryz.underlying81 rfl Yl⟩
instance:ο D 104 303:=⟨Bg _ Tryz.underlying104 rfl Yl⟩
instance:ο D 37 3:=⟨Bg _ Ff rfl Yl⟩
instance:ο D 34 4:=⟨Bg _ Fg rfl Yl⟩
instance:ο D 33 4:=⟨Bg _ Gj rfl Yl⟩
instance:ο D 38 12:=⟨Bg _ Er rfl Yl⟩
instance:ο D 32 21:=⟨Bg _ Dw rfl Yl⟩
instance:ο D 44 296:=⟨Bg _ Tryz.underlying44 rfl Yl⟩
instance:ο D 98 16:=⟨Bg _ Tryz.underlying98 rfl Yl⟩
instance:ο D 102 4:=⟨Bg _ Tryz.underlying102 rfl Yl⟩
instance:χ D 3:=⟨⟨λw=>by go_simp,λw=>Yh⟩⟩
instance:χ D 4:=⟨⟨λw=>by go_simp,λw=>Yh⟩⟩
instance:χ D 72:=⟨⟨λw=>by go_simp,λw=>Yh⟩⟩
instance:χ D 39:=⟨⟨λw=>by go_simp,λw=>Yh⟩⟩
instance:χ D 65:=⟨⟨λw=>by go_simp,λw=>Yh⟩⟩
instance:χ D 5:=⟨⟨λw=>by go_simp,λw=>Yh⟩⟩
instance:χ D 101:=⟨⟨λw=>by go_simp,λw=>Yh⟩⟩
instance:χ D 50:=⟨⟨λw=>by go_simp,λw=>Yh⟩⟩
instance:χ D 28:=⟨⟨λw=>by go_simp,λw=>Yh⟩⟩
instance:χ D 48:=⟨⟨λw=>by go_simp,λw=>Yh⟩⟩
instance:χ D 22:=⟨⟨λw=>by go_simp,λw=>Yh⟩⟩
instance:χ D 96:=⟨⟨λw=>by go_simp,λw=>Yh⟩⟩
instance:χ D 91:=⟨⟨λw=>by go_simp,λw=>Yh⟩⟩
instance:â D 37 3 3:=⟨Ff⟩
instance:â D 34 4 3:=⟨Fg⟩
instance:â D 33 4 4:=⟨Gj⟩
instance:â D 38 4 37:=⟨Er⟩
instance:â D 32 3 31:=⟨Dw⟩
instance:â D 44 4 43:=⟨Tryz.underlying44⟩
instance:â D 98 4 79:=⟨Tryz.underlying98⟩
instance:â D 102 4 101:=⟨Tryz.underlying102⟩
instance:Ψ D 72 3:=⟨Fu⟩
instance:Ω D 72:=⟨λho hx w=>by unfold β;rw[ho];dsimp only;go_simp⟩
instance:Ψ D 39 4:=⟨Tryz.underlying39⟩
instance:Ω D 39:=⟨λho hx w=>by unfold β;rw[ho];dsimp only;go_simp⟩
instance:Ψ D 65 5:=⟨Cz⟩
instance:Ω D 65:=⟨λho hx w=>by unfold β;rw[ho];dsimp only;go_simp⟩
instance:Ψ D 101 79:=⟨Tryz.underlying101⟩
instance:Ω D 101:=⟨λho hx w=>by unfold β;rw[ho];dsimp only;go_simp⟩
instance:Ψ D 50 81:=⟨Tryz.underlying50⟩
instance:Ω D 50:=⟨λho hx w=>by unfold β;rw[ho];dsimp only;go_simp⟩
instance:Ψ D 28 52:=⟨Tryz.underlying28⟩
instance:Ω D 28:=⟨λho hx w=>by unfold β;rw[ho];dsimp only;go_simp⟩
instance:Ψ D 48 57:=⟨Tryz.underlying48⟩
instance:Ω D 48:=⟨λho hx w=>by unfold β;rw[ho];dsimp only;go_simp⟩
instance:Ψ D 93 96:=⟨Tryz.underlying93⟩
instance:Ω D 93:=⟨λho hx w=>by unfold β;rw[ho];dsimp only;go_simp⟩
instance:æ D 48 (η none 0 0):=⟨λw=>by kernel_rfl,rfl⟩
instance:æ D 101 (η none 0 0):=⟨λw=>by kernel_rfl,rfl⟩
instance:æ D 3 (H U 0):=⟨λw=>by kernel_rfl,rfl⟩
instance:æ D 4 (ε false):=⟨λw=>by kernel_rfl,rfl⟩
instance:æ D 28 (η none 0 0):=⟨λw=>by kernel_rfl,rfl⟩
instance:æ D 72 (η none 0 0):=⟨λw=>by kernel_rfl,rfl⟩
instance:è D 43 74 (ndF dS (η none 0 0)):=⟨λw=>Yl⟩
instance:è D 79 4 (msF 0 0 0 (η none 0 0)):=⟨λw=>Yl⟩
instance:è D 37 3 (λ_=>iV 0):=⟨λw=>Yl⟩
instance:è D 34 4 (λ_=>iV 0):=⟨λw=>Yl⟩
instance:è D 38 12 (λ_=>iV 0):=⟨λw=>Yl⟩
instance:ä D 39 4 1 1:=InfK.of Tryz.underlying39
instance:ä D 72 3 1 8:=InfK.of Fu
instance:ä D 65 5 1 1:=InfK.of Cz
instance:ä D 101 79 4 48:=InfK.of Tryz.underlying101
instance:ä D 50 81 3 40:=InfK.of Tryz.underlying50
instance:ä D 28 52 14 128:=InfK.of Tryz.underlying28
instance:ä D 48 57 14 80:=InfK.of Tryz.underlying48
variable{b:Bool}
theorem xW(x y)(ho:o.op=.binOp .neq 22 x y 22){u v}(hx:f x=H U u)(hy:f y=H U v)(hb:decide (u≠v)=b)(w):(β f o).run D w=.ok (.value (ε b)) w:=by have e:(u !=v)=b:=Oq;go_simp
def sB(g:γ->γ)(n:γ):ByteArray:=strOfNums ((à n).map λi=>(g i))
variable{g:γ->γ}{n:γ}
theorem aLM{f:γ->γ}(h:∀i,i<n->g i=f i):sB g n=sB f n:=by unfold sB;congr 1;apply Cw;grind
theorem aSv{f:γ->γ}(hg:∀i,g i<256)(hf:∀i,f i<256)(h:sB g n=sB f n):∀i,i<n->g i=f i:=by intro i hi;have h1:=congrArg (λb:ByteArray=>b.data.toList[i]?) h;simp only[sB,strOfNums_data,List.map_map,Bu,Cr hi,Cc] at h1;have h2:=congrArg UInt8.toNat (Dp h1);simp only[Function.comp,Hm,UInt8.toNat_ofNat'] at h2;grind
theorem aIs(w)(ao)(n c)g(hr:Rd w ao n (bF g)):(convert 65 9 (η ao n c)).run D w=.ok (.string (sB g n)) w:=by
 rcases Bj n with d|d
 .subst d;rw[run_convert_bytes_string w 65 9 5 _ 0 c Cz Hq Ev];cases ao with
  |none=>simp[Conv.bytesToString];rfl
  |some a=>simp[Conv.bytesToString,loadCells,loadCellsFrom];rfl
 obtain⟨b,o,rfl,hc⟩:=hr d;exact run_convert_bytes_arg w 65 5 Cz Hq b o n c ((à n).map λi=>(g i:Int)) Mt (λi hi=>by rw[hc i hi];show Y (ë .u8 (g i:Int))=_;simp[List.getD,hi]) 9 Ev
theorem XF(x)(ho:o.op=.convert 65 9 x){c}(hx:f x=η ao n c)(hr:Rd w ao n (bF g)):(β f o).run D w=.ok (.value (.string (sB g n))) w:=by have e:=aIs w ao n c g hr;unfold β;simp_all
variable{u v:ByteArray}
theorem aIJ(x y)(ho:o.op=.binOp .neq 9 x y 9)(hx:f x=.string u)(hy:f y=.string v)(h:u=v)(w):(β f o).run D w=.ok (.value (ε false)) w:=by go_simp
theorem aIK(x y)(ho:o.op=.binOp .neq 9 x y 9)(hx:f x=.string u)(hy:f y=.string v)(h:u≠v)(w):(β f o).run D w=.ok (.value (ε true)) w:=by go_simp;rw[Dy,Dy];intro e;apply h;obtain⟨⟨l⟩⟩:=u;simp_all
variable{u v:Int}
theorem aLz(x y)(ho:o.op=.binOp .lss 3 x y 3)(hx:f x=H U u)(hy:f y=H U v)(h:u<v)(w):(β f o).run D w=.ok (.value (ε true)) w:=Yjq
theorem aLx(x y)(ho:o.op=.binOp .lss 3 x y 3)(hx:f x=H U u)(hy:f y=H U v)(h:¬u<v)(w):(β f o).run D w=.ok (.value (ε false)) w:=Yjq
theorem aLK(x y)(ho:o.op=.binOp .sub 3 x y 3)(hx:f x=H U u)(hy:f y=H U v)(h1: -9223372036854775808<=u-v)(h2:u-v<=9223372036854775807)(w):(β f o).run D w=.ok (.value (H U (u-v))) w:=by go_simp;rw[Db];omega
instance iDrv_1:χ D 9:=⟨⟨λw=>by go_simp,λw=>Yh⟩⟩
instance iDrv_2:χ D 64:=⟨⟨λw=>by go_simp,λw=>Yh⟩⟩
instance iDrv_3:Ψ D 59 9:=⟨Tryz.underlying59⟩
instance iDrv_4:Ω D 59:=⟨λho hx w=>by unfold β;rw[ho];dsimp only;go_simp⟩
instance iDrv_5:θ D 69 0 0:=⟨λho hx w=>Yg⟩
instance iDrv_6:θ D 69 1 297:=⟨λho hx w=>Yg⟩
instance iDrv_7:θ D 69 2 311:=⟨λho hx w=>Yg⟩
instance iDrv_8:θ D 67 0 0:=⟨λho hx w=>Yg⟩
instance iDrv_9:θ D 67 1 1:=⟨λho hx w=>Yg⟩
section
variable {f:Δ->Value} {o:ρ}
variable{s:ByteArray}
theorem yR(x)(ho:o.op=.call { callee:=.builtin .len,args:=#[x],argTypes:=#[9] })(hx:f x=.string s)(w):(β f o).run D w=.ok (.value (H U s.size)) w:=by unfold β;rw[ho];dsimp only;go_simp
variable{t:ByteArray}
theorem wJ(h:s.toList=t.toList):s=t:=by
 have h1:s.data.toList=t.data.toList:=by have e:=λa=>Dy a;grind
 cases s;simp_all
theorem aLk(x y)(ho:o.op=.binOp .eql 9 x y 9)(hx:f x=.string s)(hy:f y=.string t)(hb:decide (s=t)=b)(w):(β f o).run D w=.ok (.value (ε b)) w:=by
 subst hb;go_simp;by_cases h:s=t
 .grind
 rw[Xf h];refine beq_eq_false_iff_ne.2 (λe=>h ?_);exact wJ e
theorem lK(x y)(ho:o.op=.index 9 x y){l:ψ UInt8}{k:γ}{z}(hx:f x=.string ⟨l.toArray⟩)(hy:f y=H U z)(hz:z=(k))hk(w):(β f o).run D w=.ok (.value (H .u8 (l[k].toNat))) w:=by
 unfold β;have:(Instr.index 9 (.string ⟨l.toArray⟩) (iY (k:Int))).run uC w=.ok (H .u8 (l[k].toNat:Int)) w:=by rw[run_index_string _ _ _ _ _ Ev,dif_pos ⟨Z,by show (k:Int)<((l.toArray.size:γ):Int);rw[Co];omega⟩];rfl
 simp_all
theorem OM(x)(ho:o.op=.convert 5 3 x){u:γ}(hx:f x=H .u8 u)(hu:u<256)(w):(β f o).run D w=.ok (.value (H U u)) w:=by go_simp;rw[Db];omega
end
end
end Go.Proofs.YthimcecbgpamdaaGreatDoor
