import Derived.Test.YthimcecbgpamdaaGreatDoorNear223
import Derived.Deep.LoopGhost
open Go.Proofs.YthimcecbgpamdaaGreatDoor renaming aV->D,CodI->U,LstI->V,Vh->W,SeqJ->ν,Many->σ
open _root_ renaming Nat->G,List->η,rfl->ι,Array->τ,if_pos->Γ
open Option renaming some->M
open Go renaming World->O,Value->X,Act->Y,TypeId->β,Program->γ,yielded->ζ,execOp->θ,results->κ,Operand->μ,Exit->ο,Oper->π,Calls->υ,callFunc->χ,undef->ψ,zeroValue->Δ
open Go.Value renaming pointer->δ,bool->ξ,slice->Θ,tuple->Λ
open Go.Region renaming wanted->ε
open Go.Exit renaming inBlock->ρ
open Go.Ending renaming returned->φ
open List renaming range->ω
namespace Go.Proofs.YthimcecbgpamdaaGreatDoor
section
open Go.RowKit
section
variable {P:γ} {Q:ο->Y->O->Prop} {a:Y} {w:O}
variable{R:Ending->O->Prop}{args:τ X}{c:Code}{fn:Func}
theorem bC{f}(hf:P.funcs[f]?=M fn)(hb:fn.body=M c)(n)(hn:fn.ntmps=n)(hl:args.size<=n)(h:∀A,A.tmps.size=n->A.defers=[]->(∀k v,args[k]?=M v->A.eval (.tmp k)=v)->U P c (bodyPost P fn R) A w):υ P f args w R:=by
 refine calls_of_wp hf hb (h _ ?_ ι ?_).out
 .grind
 intro k v hk;show (args++Array.replicate (fn.ntmps-args.size) ψ).getD k ψ=v;rw[Gc,Array.getElem?_append_left ((Array.getElem?_eq_some_iff.1 hk).1),hk];rfl
def Nx(P:γ)(y:Code)(Q:ο->Y->O->Prop):ο->Y->O->Prop:=Exit.then (λa' w'=>U P y Q a' w') Q
variable{y:Code}
theorem aH{x}(h:U P x (Nx P y Q) a w):U P (.seq x y) Q a w:=
 ⟨wp_seq (Code.wp_mono (λe a' w' q=>by
  cases e with
  |normal=>exact q.out
  |exit id=>exact q
  |goto l=>exact q
  |ret=>exact q
  |panic ch=>exact q
  |outgrown=>exact q) h.out)⟩
variable{id:G}
theorem aD{l}(h:V P l.toArray (Nx P y Q) l a w):U P (.seq (.region id l.toArray false) y) Q a w:=aH (aI h)
variable{ops:τ π}
theorem aC(h:U P y Q a w):V P ops (Nx P y Q) [] a w:=⟨wpList_nil h⟩
theorem aR(h:U P y Q a w):U P .skip (Nx P y Q) a w:=iE h
variable{S:O->Prop}
theorem fI(l)(lt)(hm:P.follows .mixedOrders=true)(hb:(Region.noSelect ops&&lt.all (λj=>decide (j<ops.size))&&decide (l.len=ops.size)&&pF .any ops (nJ lt) l (Array.replicate ops.size false))=true)(h:ν P ops Q S (nJ lt) l a w.drew):U P (.region id ops true) Q a w:=⟨aKV l lt hm hb h⟩
theorem gM{late:G->Bool}(h:U P y Q a w):ν P ops (Nx P y Q) S late .fin a w:=BK h
theorem aQ(h:Q .ret a w):U P .ret Q a w:=⟨wp_ret h⟩
theorem bL(h:Q (.exit id) a w):U P (.exit id) Q a w:=⟨wp_exit h⟩
theorem aJ(h:U P c (ρ id Q) a w):U P (.block id c) Q a w:=⟨wp_block h.out⟩
theorem bR(I:G->Y->O->Prop)(n₀)(h₀:I n₀ a w)(round:∀n a w,I n a w->U P c (Exit.then (λa' w'=>∃n',n'<n/\I n' a' w') Q) a w):U P (.loop c) Q a w:=
 ⟨wp_loop_ghost I n₀ h₀ λn a w h=>(round n a w h).out⟩
theorem mK{c}{x}{t}(hc:a.eval c=ξ t)(h1:t=true->U P x Q a w)(h2:t=false->U P y Q a w):U P (.cond c x y) Q a w:=by
 cases t
 .exact aO hc (h2 ι)
 exact aS hc (h1 ι)
variable{v:X}
theorem aN(hd:a.defers=[])(hr:(κ fn a.tmps).run P w=.ok v w)(h:R (φ v) w):bodyPost P fn R .ret a w:=⟨hd,v,hr,h⟩
theorem mU{k:G}(h:a.eval (.tmp k)=v):a.tmps.getD k ψ=v:=h
variable{cap:G}{g:G->X}{t ty:β}
theorem tY{b n N}(T:σ P ty n)(hm:W t w b N cap g)(hn:n<=N):(loadVar ty ⟨b,0,none⟩).run P w=.ok (aX g 0 n) w:=by
 have hl:(loadCells ⟨b,0,none⟩ n).run P w=.ok ((ω n).map λj=>g (0+j)).toArray w:=
  run_loadCells w ⟨b,0,none⟩ n (λj=>g (0+j)) (λj hj=>by rw[kC,Ah];exact hm.cell Yo)
 simp only[loadVar,Aq,T.agg,T.size,hl,Bb,if_true];rfl
variable{p:G}
theorem bS(h:fn.results=#[.tmp p])(hv:a.eval (.tmp p)=v):(κ fn a.tmps).run P w=.ok v w:=by have e:=mU hv;simp only[Gc] at e;simp[κ,h,e]
theorem iP{q:G}{u}(h:fn.results=#[.tmp p,.tmp q])(hu:a.eval (.tmp p)=u)(hv:a.eval (.tmp q)=v):(κ fn a.tmps).run P w=.ok (Λ #[u,v]) w:=by have e:=mU hu;have e2:=mU hv;simp only[Gc] at e e2;simp[κ,h,e,e2]
theorem sW{b n N}(h:fn.results=#[.cell p ty])(hv:a.eval (.tmp p)=δ (M ⟨b,0,none⟩))(T:σ P ty n)(hm:W t w b N cap g)(hn:n<=N):(κ fn a.tmps).run P w=.ok (aX g 0 n) w:=by have e:=mU hv;simp only[Gc] at e;simp[κ,h,e,asAddr,tY T hm hn]
theorem iC{p':G}{ty'}{b b' n n' N N' cap'}{t'}{g':G->X}(h:fn.results=#[.cell p ty,.cell p' ty'])(hv:a.eval (.tmp p)=δ (M ⟨b,0,none⟩))(hv':a.eval (.tmp p')=δ (M ⟨b',0,none⟩))(T:σ P ty n)(T':σ P ty' n')(hm:W t w b N cap g)(hn:n<=N)(hm':W t' w b' N' cap' g')(hn':n'<=N'):(κ fn a.tmps).run P w=.ok (Λ #[aX g 0 n,aX g' 0 n']) w:=by have e:=mU hv;have e2:=mU hv';simp only[Gc] at e e2;simp[κ,h,e,e2,asAddr,tY T hm hn,tY T' hm' hn']
theorem lW{p':G}{b n N}(h:fn.results=#[.cell p ty,.tmp p'])(hv:a.eval (.tmp p)=δ (M ⟨b,0,none⟩))(hv':a.eval (.tmp p')=v)(T:σ P ty n)(hm:W t w b N cap g)(hn:n<=N):(κ fn a.tmps).run P w=.ok (Λ #[aX g 0 n,v]) w:=by have e:=mU hv;have e2:=mU hv';simp only[Gc] at e e2;simp[κ,h,e,e2,asAddr,tY T hm hn]
end
section
variable {P:γ} {Q:ο->Y->O->Prop} {J:Y->O->Prop} {a:Y} {w:O} {ops:τ π} {x y:Code} {id:G}
theorem gT(h:U P y Q a w):U P .skip (ρ id (Nx P y Q)) a w:=iE h
theorem fK(h:U P y Q a w):V P ops (ρ id (Nx P y Q)) [] a w:=⟨wpList_nil h⟩
theorem oC{S:O->Prop}{late:G->Bool}(h:U P y Q a w):ν P ops (ρ id (Nx P y Q)) S late .fin a w:=BK h
theorem aU(h:J a w):V P ops (Exit.then J Q) [] a w:=⟨wpList_nil h⟩
theorem dQ(h:U P y Q a w):Nx P x (Exit.then J (ρ id (Nx P y Q))) (.exit id) a w:=by show (if id=id then _ else _);rw[Γ ι];exact h
end
variable{P:γ}{Q:ο->Y->O->Prop}{a:Y}{id:G}{w:O}
theorem Z0{x y}(h:U P y Q a w):Nx P x (ρ id (Nx P y Q)) (.exit id) a w:=by show (if id=id then _ else _);rw[Γ ι];exact h
theorem BQ{J:Y->O->Prop}{x y}{id2}(h:U P y Q a w):Nx P x (Exit.then J (ρ id (ρ id2 (Nx P y Q)))) (.exit id) a w:=by show (if id=id then _ else _);rw[Γ ι];exact h
section
variable {t:β} {B s n z:G} {w w':O} {v:X} {xs:η X} {r:Option G}
theorem bO(h:w.ownsRow B t s v n xs)(k:Below w.heap.size w w'):w'.ownsRow B t s v n xs:=by
 refine⟨h.1,?_⟩;rcases h.2 with hn|⟨g,cap,cur,rfl,hb,hgg,rest⟩
 .exact .inl hn
 exact .inr ⟨g,cap,cur,ι,hb,(k.block g (Cq hgg)).trans hgg,rest⟩
theorem bX(h:w.ownsRow B t s v n xs)(k:Kept z w w')(hz:v.ownBlock≠M z):w'.ownsRow B t s v n xs:=by
 refine⟨h.1,?_⟩;rcases h.2 with hn|⟨g,cap,cur,rfl,hb,hgg,rest⟩
 .exact .inl hn
 exact .inr ⟨g,cap,cur,ι,hb,(k.block g (Cq hgg) (λe=>hz (by rw[<-e];rfl))).trans hgg,rest⟩
theorem iJ(h:w.ownsRow B t s v n xs)(k:Kept z w w')(hz:z<B):w'.ownsRow B t s v n xs:=bX h k (λe=>by have:=(h.lt z e).1;omega)
theorem cO{C}(h:w.ownsRow B t s v n xs)(e:C<=B):w.ownsRow C t s v n xs:=by
 refine⟨h.1,?_⟩;rcases h.2 with hn|⟨g,cap,cur,rfl,hb,rest⟩
 .exact .inl hn
 exact .inr ⟨g,cap,cur,ι,Ap e hb,rest⟩
theorem dU(h:w.ownsRow B t s v n xs):∃ao cap,v=Θ ao n cap/\n<=cap:=by
 rcases h.2 with ⟨rfl,h0⟩|⟨g,cap,cur,rfl,_,_,hc,_⟩
 .grind
 grind
end
theorem aSu{t}{A B s n}{w'}{v}{xs}(h:w.ownsRow A t s v n xs)(k:Below B w w')(hb:∀b,v.ownBlock=M b->b<B):w'.ownsRow A t s v n xs:=by
 refine⟨h.1,?_⟩;rcases h.2 with hn|⟨g,cap,cur,rfl,hg,hgg,rest⟩
 .exact .inl hn
 exact .inr ⟨g,cap,cur,ι,hg,(k.block g (hb g ι)).trans hgg,rest⟩
end
section
open Go
variable{K:Y->O->Prop}{P:γ}{Q:ο->Y->O->Prop}{R:Ending->O->Prop}{a:Y}{o:π}
theorem qU(w)(n:G)(x y z u)(T)(ho:o.op=.call { callee:=.value (.func n),args:=#[x,y,z,u],argTypes:=T }){p q r s}(hx:a.eval x=p)(hy:a.eval y=q)(hz:a.eval z=r)(hu:a.eval u=s)(hf:(χ n #[p,q,r,s]).run P w=.ok (.enter n #[p,q,r,s]) w)(hc:υ P n #[p,q,r,s] w R)(h:∀e w',R e w'->∃r,e=φ r/\K (a.put o.dst r) w'):WpI P o a w K Q:=
 aUh w n [x,y,z,u] T ho (by simp only[Aw,Az,hx,hy,hz,hu]) hf hc h
theorem aCq(w)(n:G)(x y z u v x6)(T)(ho:o.op=.call { callee:=.value (.func n),args:=#[x,y,z,u,v,x6],argTypes:=T }){p q r s t p6}(hx:a.eval x=p)(hy:a.eval y=q)(hz:a.eval z=r)(hu:a.eval u=s)(hv:a.eval v=t)(h6:a.eval x6=p6)(hf:(χ n #[p,q,r,s,t,p6]).run P w=.ok (.enter n #[p,q,r,s,t,p6]) w)(hc:υ P n #[p,q,r,s,t,p6] w R)(h:∀e w',R e w'->∃r,e=φ r/\K (a.put o.dst r) w'):WpI P o a w K Q:=
 aUh w n [x,y,z,u,v,x6] T ho (by simp only[Aw,Az,hx,hy,hz,hu,hv,h6]) hf hc h
theorem jH(w)(n:G)(x y z)(T)(ho:o.op=.call { callee:=.value (.func n),args:=#[x,y,z],argTypes:=T }){p q r}(hx:a.eval x=p)(hy:a.eval y=q)(hz:a.eval z=r)(hf:(χ n #[p,q,r]).run P w=.ok (.enter n #[p,q,r]) w)(hc:υ P n #[p,q,r] w R)(h:∀e w',R e w'->∃r,e=φ r/\K (a.put o.dst r) w'):WpI P o a w K Q:=
 aUh w n [x,y,z] T ho (by simp only[Aw,Az,hx,hy,hz]) hf hc h
end
section
open Go.RowKit
structure It where
 p:O->Prop
 foot:G->Prop
 ok:∀{w w':O},p w->(∀k,k<w.heap.size->foot k->w'.heap[k]?=w.heap[k]?)->p w'
 lt:∀{w:O} {k:G},p w->foot k->k<w.heap.size
variable{n:G}{t:β}{v:X}{w:O}
theorem LA{B s}{w':O}{xs}(h:w.ownsRow B t s v n xs)(e:∀k,v.ownBlock=M k->w'.heap[k]?=w.heap[k]?):w'.ownsRow B t s v n xs:=by
 refine⟨h.1,?_⟩;rcases h.2 with hn|⟨g,cap,cur,rfl,hb,hgg,rest⟩
 .exact .inl hn
 exact .inr ⟨g,cap,cur,ι,hb,(e g ι).trans hgg,rest⟩
def vhI(t:β)(b N cap:G)(g:G->X):It:=⟨λw=>W t w b N cap g,λk=>k=b,λh e=>Vh.same h (e _ h.lt rfl),λh e=>e ▸ h.lt⟩
def fU(B:G)(t:β)(s:G)(v:X)(n:G)(xs:η X):It:=⟨λw=>w.ownsRow B t s v n xs,λk=>v.ownBlock=M k,λh e=>LA h (λk hk=>e k (h.lt k hk).2 hk),λh e=>(h.lt _ e).2⟩
structure Cx (w0 w:O) (l:η It):Prop where
 bel:Below w0.heap.size w0 w
 it:∀x,x∈l->x.p w
 up:∀x,x∈l->∀k,x.foot k->w0.heap.size<=k
 dis:l.Pairwise λx y=>∀k,x.foot k->¬y.foot k
section
variable {w0 w w':O} {l a b:η It} {x y:It}
theorem Cx.start(w0):Cx w0 w0 []:=⟨Af _ _,λ_ h=>Nv,λ_ h=>Nv,List.Pairwise.nil⟩
theorem Cx.size(H:Cx w0 w l):w0.heap.size<=w.heap.size:=H.bel.size
theorem Cx.call(H:Cx w0 w l)(k:Below w.heap.size w w'):Cx w0 w' l:=⟨H.bel.trans (k.mono H.size),λx hx=>x.ok (H.it x hx) (λj hj _=>k.block j hj),H.up,H.dis⟩
theorem Cx.drew(H:Cx w0 w l):Cx w0 w.drew l:=H.call ⟨rfl,rfl,rfl,Xr _,λ_ _=>rfl⟩
theorem Cx.add(H:Cx w0 w l)(k:Below w.heap.size w w')(x)(hx:x.p w')(hf:∀j,x.foot j->w.heap.size<=j):Cx w0 w' (x::l):=by
 have H':=H.call k;have hs:=H.size;refine⟨H'.bel,λy hy=>?_,λy hy j hj=>?_,List.Pairwise.cons (λy hy j h1 h2=>?_) H.dis⟩
 .rcases Bv.1 hy with rfl|hy
  .exact hx
  exact H'.it y hy
 .rcases Bv.1 hy with rfl|hy
  .grind
  exact H.up y hy j hj
 have h3:=hf j h1;have h4:=y.lt (H.it y hy) h2;omega
structure Chg (w w':O) (x y:It):Prop where
 os:w'.os=w.os
 tape:w'.tape=w.tape
 output:w'.output=w.output
 size:w.heap.size<=w'.heap.size
 hk:∀k,k<w.heap.size->¬x.foot k->w'.heap[k]?=w.heap[k]?
 hy:y.p w'
 hf:∀j,y.foot j->x.foot j\/w.heap.size<=j
theorem Cx.p0(H:Cx w0 w (x::b))(c:Chg w w' x y):Cx w0 w' (y::b):=by
 have hs:=H.size;obtain⟨d4,d5⟩:=Gf.1 H.dis;have hx:x∈x::b:=Ee;have inB:∀z,z∈b->z∈x::b:=λz hz=>Du _ hz;refine⟨⟨c.os.trans H.bel.os,c.tape.trans H.bel.tape,c.output.trans H.bel.output,Ap H.bel.size c.size,λk hkk=>(c.hk k Yo (λe=>by have:=H.up x hx k e;omega)).trans (H.bel.block k hkk)⟩,λz hz=>?_,λz hz j hj=>?_,Gf.2 ⟨λz hz j h1 h2=>?_,d5⟩⟩
 .rcases Bv.1 hz with rfl|hz
  .exact c.hy
  exact z.ok (H.it z (inB z hz)) (λk h1 h2=>c.hk k h1 (λh3=>d4 z hz k h3 h2))
 .rcases Bv.1 hz with rfl|hz
  .rcases c.hf j hj with h|h
   .exact H.up x hx j h
   omega
  exact H.up z (inB z hz) j hj
 rcases c.hf j h1 with h|h
 .grind
 have:=z.lt (H.it z (inB z hz)) h2;omega
variable{m:η It}
theorem Cx.sub(H:Cx w0 w l)(h:m.Sublist l):Cx w0 w m:=⟨H.bel,λx hx=>H.it x (h.subset hx),λx hx=>H.up x (h.subset hx),H.dis.sublist h⟩
theorem Cx.perm(H:Cx w0 w l)(h:l.Perm m):Cx w0 w m:=⟨H.bel,λx hx=>H.it x (h.mem_iff.2 hx),λx hx=>H.up x (h.mem_iff.2 hx),H.dis.perm h (λh1 k h2 h3=>h1 k h3 h2)⟩
theorem Cx.base{v0}(H:Cx w0 w l)(k:Below v0.heap.size v0 w0)(hs:v0.heap.size<=w0.heap.size):Cx v0 w l:=⟨k.trans (H.bel.mono hs),H.it,λx hx j hj=>Ap hs (H.up x hx j hj),H.dis⟩
theorem Cx.tl(H:Cx w0 w (x::l)):Cx w0 w l:=H.sub (List.sublist_cons_self x l)
end
structure Its (l:η It) (w:O):Prop where
 it:∀x,x∈l->x.p w
theorem Its.nil(w):Its [] w:=⟨λ_ h=>(by cases h)⟩
variable{l:η It}{x:It}
theorem Its.cons(h:x.p w)(t:Its l w):Its (x::l) w:=⟨λy hy=>by
 rcases Bv.1 hy with rfl|hy
 .exact h
 exact t.it y hy⟩
theorem Its.tl(h:Its (x::l) w):Its l w:=⟨λy hy=>h.it y (Du _ hy)⟩
structure AtK (w0 w:O) (x:It) (F:It->η It):Prop where
 o:x.p w
 size:w0.heap.size<=w.heap.size
 put:∀{w':O} {y:It},Chg w w' x y->Cx w0 w' (F y)
section
variable {w0 w w':O} {x0 x1 x2 x3 x4 x5 x6 x7 x8 x:It} {l:η It} {t:β} {b N cap:G} {g g':G->X} {F:It->η It}
theorem AtK.s(H:AtK w0 w (vhI t b N cap g) F)(k:Kept b w w')(m:W t w' b N cap g'):Cx w0 w' (F (vhI t b N cap g')):=H.put ⟨k.os,k.tape,k.output,k.size,λj h1 h2=>k.block j h1 h2,m,λ_ h=>Aa h⟩
theorem Cx.o0(H:Cx w0 w (x::l)):x.p w:=H.it _ Ee
theorem Cx.v0(H:Cx w0 w (vhI t b N cap g::l)):W t w b N cap g:=H.o0
theorem Its.v0(H:Its (vhI t b N cap g::l) w):W t w b N cap g:=H.it _ Ee
theorem Cx.a0(H:Cx w0 w (x::l)):AtK w0 w x (λy=>y::l):=⟨H.o0,H.size,λc=>H.p0 c⟩
theorem Cx.f1(H:Cx w0 w (x0::x::l)):Cx w0 w (x::x0::l):=H.perm (Cy (l₁:=[x0]))
theorem Cx.b1(H:Cx w0 w (x::x0::l)):Cx w0 w (x0::x::l):=H.perm (Cy (l₁:=[x0])).symm
theorem Cx.o1(H:Cx w0 w (x0::x::l)):x.p w:=H.f1.o0
theorem Cx.v1(H:Cx w0 w (x0::vhI t b N cap g::l)):W t w b N cap g:=H.o1
theorem Its.v1(H:Its (x0::vhI t b N cap g::l) w):W t w b N cap g:=H.tl.v0
theorem Cx.a1(H:Cx w0 w (x0::x::l)):AtK w0 w x (λy=>x0::y::l):=⟨H.o1,H.size,λc=>(H.f1.p0 c).b1⟩
theorem Cx.f2(H:Cx w0 w (x0::x1::x::l)):Cx w0 w (x::x0::x1::l):=H.perm (Cy (l₁:=[x0,x1]))
theorem Cx.b2(H:Cx w0 w (x::x0::x1::l)):Cx w0 w (x0::x1::x::l):=H.perm (Cy (l₁:=[x0,x1])).symm
theorem Cx.o2(H:Cx w0 w (x0::x1::x::l)):x.p w:=H.f2.o0
theorem Cx.v2(H:Cx w0 w (x0::x1::vhI t b N cap g::l)):W t w b N cap g:=H.o2
theorem Its.v2(H:Its (x0::x1::vhI t b N cap g::l) w):W t w b N cap g:=H.tl.v1
theorem Cx.a2(H:Cx w0 w (x0::x1::x::l)):AtK w0 w x (λy=>x0::x1::y::l):=⟨H.o2,H.size,λc=>(H.f2.p0 c).b2⟩
theorem Cx.f3(H:Cx w0 w (x0::x1::x2::x::l)):Cx w0 w (x::x0::x1::x2::l):=H.perm (Cy (l₁:=[x0,x1,x2]))
theorem Cx.b3(H:Cx w0 w (x::x0::x1::x2::l)):Cx w0 w (x0::x1::x2::x::l):=H.perm (Cy (l₁:=[x0,x1,x2])).symm
theorem Cx.o3(H:Cx w0 w (x0::x1::x2::x::l)):x.p w:=H.f3.o0
theorem Cx.v3(H:Cx w0 w (x0::x1::x2::vhI t b N cap g::l)):W t w b N cap g:=H.o3
theorem Its.v3(H:Its (x0::x1::x2::vhI t b N cap g::l) w):W t w b N cap g:=H.tl.v2
theorem Cx.a3(H:Cx w0 w (x0::x1::x2::x::l)):AtK w0 w x (λy=>x0::x1::x2::y::l):=⟨H.o3,H.size,λc=>(H.f3.p0 c).b3⟩
theorem Cx.f4(H:Cx w0 w (x0::x1::x2::x3::x::l)):Cx w0 w (x::x0::x1::x2::x3::l):=H.perm (Cy (l₁:=[x0,x1,x2,x3]))
theorem Cx.b4(H:Cx w0 w (x::x0::x1::x2::x3::l)):Cx w0 w (x0::x1::x2::x3::x::l):=H.perm (Cy (l₁:=[x0,x1,x2,x3])).symm
theorem Cx.o4(H:Cx w0 w (x0::x1::x2::x3::x::l)):x.p w:=H.f4.o0
theorem Cx.v4(H:Cx w0 w (x0::x1::x2::x3::vhI t b N cap g::l)):W t w b N cap g:=H.o4
theorem Its.v4(H:Its (x0::x1::x2::x3::vhI t b N cap g::l) w):W t w b N cap g:=H.tl.v3
theorem Cx.a4(H:Cx w0 w (x0::x1::x2::x3::x::l)):AtK w0 w x (λy=>x0::x1::x2::x3::y::l):=⟨H.o4,H.size,λc=>(H.f4.p0 c).b4⟩
theorem Cx.f5(H:Cx w0 w (x0::x1::x2::x3::x4::x::l)):Cx w0 w (x::x0::x1::x2::x3::x4::l):=H.perm (Cy (l₁:=[x0,x1,x2,x3,x4]))
theorem Cx.b5(H:Cx w0 w (x::x0::x1::x2::x3::x4::l)):Cx w0 w (x0::x1::x2::x3::x4::x::l):=H.perm (Cy (l₁:=[x0,x1,x2,x3,x4])).symm
theorem Cx.o5(H:Cx w0 w (x0::x1::x2::x3::x4::x::l)):x.p w:=H.f5.o0
theorem Cx.v5(H:Cx w0 w (x0::x1::x2::x3::x4::vhI t b N cap g::l)):W t w b N cap g:=H.o5
theorem Its.v5(H:Its (x0::x1::x2::x3::x4::vhI t b N cap g::l) w):W t w b N cap g:=H.tl.v4
theorem Cx.a5(H:Cx w0 w (x0::x1::x2::x3::x4::x::l)):AtK w0 w x (λy=>x0::x1::x2::x3::x4::y::l):=⟨H.o5,H.size,λc=>(H.f5.p0 c).b5⟩
theorem Cx.f6(H:Cx w0 w (x0::x1::x2::x3::x4::x5::x::l)):Cx w0 w (x::x0::x1::x2::x3::x4::x5::l):=H.perm (Cy (l₁:=[x0,x1,x2,x3,x4,x5]))
theorem Cx.b6(H:Cx w0 w (x::x0::x1::x2::x3::x4::x5::l)):Cx w0 w (x0::x1::x2::x3::x4::x5::x::l):=H.perm (Cy (l₁:=[x0,x1,x2,x3,x4,x5])).symm
theorem Cx.o6(H:Cx w0 w (x0::x1::x2::x3::x4::x5::x::l)):x.p w:=H.f6.o0
theorem Cx.v6(H:Cx w0 w (x0::x1::x2::x3::x4::x5::vhI t b N cap g::l)):W t w b N cap g:=H.o6
theorem Its.v6(H:Its (x0::x1::x2::x3::x4::x5::vhI t b N cap g::l) w):W t w b N cap g:=H.tl.v5
theorem Cx.a6(H:Cx w0 w (x0::x1::x2::x3::x4::x5::x::l)):AtK w0 w x (λy=>x0::x1::x2::x3::x4::x5::y::l):=⟨H.o6,H.size,λc=>(H.f6.p0 c).b6⟩
theorem Cx.f7(H:Cx w0 w (x0::x1::x2::x3::x4::x5::x6::x::l)):Cx w0 w (x::x0::x1::x2::x3::x4::x5::x6::l):=H.perm (Cy (l₁:=[x0,x1,x2,x3,x4,x5,x6]))
theorem Cx.o7(H:Cx w0 w (x0::x1::x2::x3::x4::x5::x6::x::l)):x.p w:=H.f7.o0
theorem Cx.v7(H:Cx w0 w (x0::x1::x2::x3::x4::x5::x6::vhI t b N cap g::l)):W t w b N cap g:=H.o7
theorem Its.v7(H:Its (x0::x1::x2::x3::x4::x5::x6::vhI t b N cap g::l) w):W t w b N cap g:=H.tl.v6
theorem Cx.f8(H:Cx w0 w (x0::x1::x2::x3::x4::x5::x6::x7::x::l)):Cx w0 w (x::x0::x1::x2::x3::x4::x5::x6::x7::l):=H.perm (Cy (l₁:=[x0,x1,x2,x3,x4,x5,x6,x7]))
theorem Cx.b8(H:Cx w0 w (x::x0::x1::x2::x3::x4::x5::x6::x7::l)):Cx w0 w (x0::x1::x2::x3::x4::x5::x6::x7::x::l):=H.perm (Cy (l₁:=[x0,x1,x2,x3,x4,x5,x6,x7])).symm
theorem Cx.o8(H:Cx w0 w (x0::x1::x2::x3::x4::x5::x6::x7::x::l)):x.p w:=H.f8.o0
theorem Cx.v8(H:Cx w0 w (x0::x1::x2::x3::x4::x5::x6::x7::vhI t b N cap g::l)):W t w b N cap g:=H.o8
theorem Its.v8(H:Its (x0::x1::x2::x3::x4::x5::x6::x7::vhI t b N cap g::l) w):W t w b N cap g:=H.tl.v7
theorem Cx.a8(H:Cx w0 w (x0::x1::x2::x3::x4::x5::x6::x7::x::l)):AtK w0 w x (λy=>x0::x1::x2::x3::x4::x5::x6::x7::y::l):=⟨H.o8,H.size,λc=>(H.f8.p0 c).b8⟩
theorem Cx.f9(H:Cx w0 w (x0::x1::x2::x3::x4::x5::x6::x7::x8::x::l)):Cx w0 w (x::x0::x1::x2::x3::x4::x5::x6::x7::x8::l):=H.perm (Cy (l₁:=[x0,x1,x2,x3,x4,x5,x6,x7,x8]))
theorem Cx.o9(H:Cx w0 w (x0::x1::x2::x3::x4::x5::x6::x7::x8::x::l)):x.p w:=H.f9.o0
theorem Cx.v9(H:Cx w0 w (x0::x1::x2::x3::x4::x5::x6::x7::x8::vhI t b N cap g::l)):W t w b N cap g:=H.o9
theorem Its.v9(H:Its (x0::x1::x2::x3::x4::x5::x6::x7::x8::vhI t b N cap g::l) w):W t w b N cap g:=H.tl.v8
end
class FldK (P:γ) (s:β) (k:G) (d:outParam G):Prop where
 run:∀{f:μ->X} {o:π} {x:μ} {b off:G},o.op=.fieldAddr s x k->f x=δ (M ⟨b,off,none⟩)->∀w,(θ f o).run P w=.ok (.value (δ (M ⟨b,off+d,none⟩))) w
class ManyK (P:γ) (t:β) (n:outParam G):Prop where
 out:σ P t n
class OneK (P:γ) (t:β):Prop where
 out:OneC P t
class SizK (P:γ) (t:β) (n:outParam G):Prop where
 out:∀w,(sizeOf t).run P w=.ok n w
class ArrK (P:γ) (s:β) (len:outParam G) (e:outParam β):Prop where
 out:P.underlying s=M (.array len e)
class SlcK (P:γ) (s:β) (e:outParam β):Prop where
 out:P.underlying s=M (.slice e)
class ZerK (P:γ) (t:β) (n:outParam G) (f:outParam (G->X)):Prop where
 out:∀w,(Δ t).run P w=.ok (aX f 0 n) w
class Zer1 (P:γ) (t:β) (v:outParam X):Prop where
 out:∀w,(Δ t).run P w=.ok v w
 one:v.cells=#[v]
class LenK (P:γ) (t:β):Prop where
 run:∀{f:μ->X} {o:π} {x:μ} {ao:Option Addr} {n c:G},o.op=.call { callee:=.builtin .len,args:=#[x],argTypes:=#[t] }->f x=Θ ao n c->∀w,(θ f o).run P w=.ok (.value (.int .i64 ((n:G):Int))) w
instance {P:γ} {t:β} {n:G} [h:ManyK P t n]:SizK P t n:=⟨h.out.size⟩
instance {P:γ} {t:β} [h:OneK P t]:SizK P t 1:=⟨h.out.size⟩
section
variable {P:γ} {f:μ->X} {o:π}
theorem aBS(x)(ho:o.op=.nilCheck x){a}(hx:f x=δ (M a))(w):(θ f o).run P w=.ok (.value (δ (M a))) w:=Ykq
theorem dD(s e)(x y)(ho:o.op=.indexAddr s x y)(hu:P.underlying s=M (.slice e))(hs:∀w,(sizeOf e).run P w=.ok n w){b off i len cap:G}{z}(hx:f x=Θ (M ⟨b,off,none⟩) len cap)(hy:f y=.int .i64 z)(hz:z=(i))(hi:i<len)(w):(θ f o).run P w=.ok (.value (δ (M ⟨b,off+i*n,none⟩))) w:=by subst hz;have h2:(i:Int)<(len:Int):=Yo;unfold θ;simp only[ho,hx,hy,Instr.indexAt,asIntOf,Instr.sureAddr,Aq,Bo,Bb,Fq hu,kC];simp[h2,hs]
theorem nR{ty}{x}(T:σ P ty n){b off}{g:G->X}(hc:∀k,k<n->w.cell? ⟨b,off+k,none⟩=M (g k))(ho:o.op=.load ty x)(hx:f x=δ (M ⟨b,off,none⟩)):(θ f o).run P w=.ok (.value (aX g 0 n)) w:=by
 have hl:(loadCells ⟨b,off,none⟩ n).run P w=.ok ((ω n).map λj=>g (0+j)).toArray w:=
  run_loadCells w ⟨b,off,none⟩ n (λj=>g (0+j)) (λj hj=>by rw[kC,Ah];exact hc j hj)
 unfold θ;simp only[ho,hx,Instr.loadAt,Instr.sureAddr,loadVar,Aq,Bo,Bb,T.agg,T.size,hl,if_true];rfl
variable{vs:τ X}
theorem VP(fn)(xs)(ho:o.op=.makeFunc fn #[] xs)(hx:xs.map f=vs)(w):(θ f o).run P w=.ok (.value (.func fn #[] vs)) w:=Yg
theorem aOg(a:Y)(n:G):a.eval (.func n)=.func (.func n) #[] #[]:=rfl
end
variable{p:Prop}
theorem Qv(h:p:=by first|exact ZK rfl Yo|exact F6 rfl (by assumption)|exact aL _ _|exact aOg _ _):p:=h
theorem Qh(h:p:=by first|exact H.v0|exact H.v1|exact H.v2|exact H.v3|exact H.v4|exact H.v5|exact H.v6|exact H.v7|exact H.v8|exact H.v9|exact Vh.below G0 H.bel|exact Vh.below G1 H.bel|exact Vh.below G2 H.bel|assumption):p:=h
theorem Qr {p : Prop} (h : p := by first
   |exact fC _ rfl Qv _
   |exact mI _ rfl Qv _
   |exact FldK.run rfl Qv _
   |exact aT _ _ rfl OneK.out Qv Qh Yo rfl
   |exact bE _ _ rfl ManyK.out Qv Qh Yo
   |exact aBS _ rfl Qv _
   |exact bB _ _ _ _ rfl ArrK.out SizK.out Qv Qv rfl Yo _
   |exact dD (i:=0) _ _ _ _ rfl SlcK.out SizK.out Qv Qv rfl Yo _
   |exact dD (i:=1) _ _ _ _ rfl SlcK.out SizK.out Qv Qv rfl Yo _
   |exact dD (i:=2) _ _ _ _ rfl SlcK.out SizK.out Qv Qv rfl Yo _
   |exact dD (i:=3) _ _ _ _ rfl SlcK.out SizK.out Qv Qv rfl Yo _
   |exact dD _ _ _ _ rfl SlcK.out SizK.out Qv Qv rfl Yo _
   |exact nH _ _ _ _ rfl ArrK.out ManyK.out Qv rfl Qv rfl Yo _
   |exact nG _ _ _ _ rfl ArrK.out OneK.out Qv Qv rfl Yo _
   |exact LenK.run rfl Qv _
   |exact dH _ _ rfl Qv Qv rfl _
   |exact bW _ _ rfl Qv Qv rfl _
   |exact bK _ _ rfl Qv Qv rfl _
   |exact dO _ _ rfl Qv Qv rfl _
   |exact O0 _ _ rfl Qv Qv rfl _
   |exact fG _ _ rfl Qv Qv rfl _
   |exact nC _ _ rfl Qv Qv rfl _
   |exact xW _ _ rfl Qv Qv rfl _
   |exact nA _ _ rfl Qv Qv Yo Yo _
   |exact kT _ _ rfl Qv Qv Yo Yo _
   |exact tZ _ _ rfl Qv _
   |exact nD _ rfl Qv _
   |exact nE _ rfl Qv _
   |exact pI _ rfl Qv _
   |exact pJ _ rfl Qv _
   |exact pK _ rfl Qv _):p:=h
theorem Qw(h:p:=by first|exact fE rfl|exact dW rfl rfl rfl Qv):p:=h
section
variable {P:γ} {ops:τ π} {Q:ο->Y->O->Prop} {A:Y} {L:η (Nat×Value)} {w0 w:O} {rest:η π} {o:π} {d:G} {v:X} {l:η It}
theorem qa(h:V P ops Q rest (D A ((d,v)::L)) w)(hd:o.dst=M d:=by rfl)(hw:ε o (ζ ops (D A L).tmps)=true:=by first|exact fE rfl|exact dW rfl rfl rfl Qv)(hy:(θ (D A L).eval o).run P w=.ok (.value v) w:=by exact Qr):V P ops Q (o::rest) (D A L) w:=aAW hd hw hy h
theorem bP(h:V P ops Q rest (D A ((d,ψ)::L)) w)(hd:o.dst=M d:=by rfl)(hw:ε o (ζ ops (D A L).tmps)=false:=by first|exact kE rfl rfl rfl Qv Yc|exact wanted_u rfl rfl rfl Qv):V P ops Q (o::rest) (D A L) w:=aHB hd hw h
theorem qg(hy:(θ (D A L).eval o).run P w=.ok (.value v) w)(h:V P ops Q rest (D A ((d,v)::L)) w)(hd:o.dst=M d:=by rfl)(hw:ε o (ζ ops (D A L).tmps)=true:=by first|exact fE rfl|exact dW rfl rfl rfl Qv):V P ops Q (o::rest) (D A L) w:=aAW hd hw hy h
variable{x y:μ}
theorem aTY{c:μ}(h:V P ops Q rest (D A ((d,v)::L)) w)(ho:o.op=.pick c x y:=by rfl)(hc:(D A L).eval c=ξ false:=by exact Qv)(hy:(D A L).eval y=v:=by exact Qv)(hd:o.dst=M d:=by rfl)(hw:ε o (ζ ops (D A L).tmps)=true:=by exact Qw):V P ops Q (o::rest) (D A L) w:=aAW hd hw (aM c x y ho hc hy _) h
theorem aTZ{c:μ}(h:V P ops Q rest (D A ((d,v)::L)) w)(ho:o.op=.pick c x y:=by rfl)(hc:(D A L).eval c=ξ true:=by exact Qv)(hx:(D A L).eval x=v:=by exact Qv)(hd:o.dst=M d:=by rfl)(hw:ε o (ζ ops (D A L).tmps)=true:=by exact Qw):V P ops Q (o::rest) (D A L) w:=aAW hd hw (aK c x y ho hc hx _) h
theorem aUa(h:V P ops Q rest (D A ((d,ξ true)::L)) w)(hy:(θ (D A L).eval o).run P w=.ok (.value (ξ true)) w:=by first|exact dH (b:=true) _ _ rfl Qv Qv (Xt Yo) _|exact bW (b:=true) _ _ rfl Qv Qv (Xt Yo) _|exact fG (b:=true) _ _ rfl Qv Qv (Xt Yo) _|exact O0 (b:=true) _ _ rfl Qv Qv (Xt Yo) _|exact bK (b:=true) _ _ rfl Qv Qv (Xt Yo) _|exact dO (b:=true) _ _ rfl Qv Qv (Xt Yo) _)(hd:o.dst=M d:=by rfl)(hw:ε o (ζ ops (D A L).tmps)=true:=by exact Qw):V P ops Q (o::rest) (D A L) w:=aAW hd hw hy h
theorem aUb(h:V P ops Q rest (D A ((d,ξ false)::L)) w)(hy:(θ (D A L).eval o).run P w=.ok (.value (ξ false)) w:=by first|exact dH (b:=false) _ _ rfl Qv Qv (Xf Yo) _|exact bW (b:=false) _ _ rfl Qv Qv (Xf Yo) _|exact fG (b:=false) _ _ rfl Qv Qv (Xf Yo) _|exact O0 (b:=false) _ _ rfl Qv Qv (Xf Yo) _|exact bK (b:=false) _ _ rfl Qv Qv (Xf Yo) _|exact dO (b:=false) _ _ rfl Qv Qv (Xf Yo) _)(hd:o.dst=M d:=by rfl)(hw:ε o (ζ ops (D A L).tmps)=true:=by exact Qw):V P ops Q (o::rest) (D A L) w:=aAW hd hw hy h
variable {S:O->Prop} {late:G->Bool} {i:G} {r:PlanJ}
theorem qj(h:ν P ops Q S late r (D A ((d,v)::L)) w)(ho:ops[i]?=M o:=by rfl)(hd:o.dst=M d:=by rfl)(hQ:∀c a w,Q (.panic c) (a.put (M d) v) w->Q (.panic c) a w:=by first|exact λ_ _ _ h=>h|exact λ_ _ _ h=>dL h)(hw:ε o (ζ ops (D A L).tmps)=true:=by first|exact fE rfl|exact dW rfl rfl rfl Qv)(hy:∀w,(θ (D A L).eval o).run P w=.ok (.value v) w:=by intro w;exact Qr):ν P ops Q S late (.mv i r) (D A L) w:=dC ho hd hQ hw hy h
theorem qr (hS : S w) (h : ν P ops Q S late r (D A ((d, v) :: L)) w) (ho : ops[i]? = M o := by rfl) (hd : o.dst = M d := by rfl) (hQ : ∀ c a w, Q (.panic c) (a.put (M d) v) w -> Q (.panic c) a w := by first | exact λ_ _ _ h => h | exact λ_ _ _ h => dL h) (hw : ε o (ζ ops (D A L).tmps) = true := by first | exact fE rfl | exact dW rfl rfl rfl Qv) (hy : ∀ w, S w -> (θ (D A L).eval o).run P w = .ok (.value v) w := by first
   |exact λ_ H=>aT _ _ rfl OneK.out Qv Qh Yo rfl
   |exact λ_ H=>bE _ _ rfl ManyK.out Qv Qh Yo):SeqJ P ops Q S late (.rd i r) (aV A L) w:=oD ho hd hQ hw hS hy h
variable{f:G->X}{ty:β}
theorem gQ(H:Cx w0 w l)(h:∀w',Cx w0 w' (vhI ty w.heap.size n n f::l)->w'.heap.size=w.heap.size+1->V P ops Q rest (D A ((d,δ (M ⟨w.heap.size,0,none⟩))::L)) w')(ho:o.op=.alloc ty:=by rfl)(Z:ZerK P ty n f:=by infer_instance)(hn:n<=maxLen:=by exact Xu rfl)(hd:o.dst=M d:=by rfl)(hw:ε o (ζ ops (D A L).tmps)=true:=by exact fE rfl):V P ops Q (o::rest) (D A L) w:=
 bI hd hw (λ_ hK=>kF w ty ho Z.out hn (λw' m k z=>hK _ _ (h w' (H.add k _ m (λj (e:j=_)=>Bq e.symm)) z)))
variable{K:Y->O->Prop}{a:Y}
theorem aJn(w)(ty)(ho:o.op=.alloc ty)(hz:∀w,(Δ ty).run P w=.ok v w)(h1:v.cells=#[v])(h:∀w',W ty w' w.heap.size 1 1 (λ_=>v)->Below w.heap.size w w'->w'.heap.size=w.heap.size+1->K (a.put o.dst (δ (M ⟨w.heap.size,0,none⟩))) w'):WpI P o a w K Q:=by refine⟨?_⟩;unfold Oper.wp θ;simp only[ho,Instr.alloc,newVar,newRow,newObj,Aq,hz,Bb,h1];exact (h (w.alloc (.cells ((ω 1).map λ_=>v).toArray ty)) (Cf _ 1 Yc Nj) (bU _ _) (fA _ _))
theorem aTj(H:Cx w0 w l)(h:∀w',Cx w0 w' (vhI ty w.heap.size 1 1 (λ_=>v)::l)->w'.heap.size=w.heap.size+1->V P ops Q rest (D A ((d,δ (M ⟨w.heap.size,0,none⟩))::L)) w')(ho:o.op=.alloc ty:=by rfl)(Z:Zer1 P ty v:=by infer_instance)(hd:o.dst=M d:=by rfl)(hw:ε o (ζ ops (D A L).tmps)=true:=by exact fE rfl):V P ops Q (o::rest) (D A L) w:=
 bI hd hw (λ_ hK=>aJn w ty ho Z.out Z.one (λw' m k z=>hK _ _ (h w' (H.add k _ m (λj (e:j=_)=>Bq e.symm)) z)))
theorem jO(H:Cx w0 w l)(h:∀w',Cx w0 w' (vhI ty w.heap.size n n f::l)->w'.heap.size=w.heap.size+1->V P ops Q rest (D A ((d,δ (M ⟨w.heap.size,0,none⟩))::L)) w')(ho:o.op=.box ty x:=by rfl)(hx:(D A L).eval x=aX f 0 n:=by exact Qv)(hn:n<=maxLen:=by exact Xu rfl)(hd:o.dst=M d:=by rfl)(hw:ε o (ζ ops (D A L).tmps)=true:=by exact fE rfl):V P ops Q (o::rest) (D A L) w:=
 bI hd hw (λ_ hK=>xZ w ty x ho hx hn (λw' m k z=>hK _ _ (h w' (H.add k _ m (λj (e:j=_)=>Bq e.symm)) z)))
theorem aQE(w)(ty)(x)(ho:o.op=.box ty x)(hx:a.eval x=v)(h1:v.cells=#[v])(h:∀w',W ty w' w.heap.size 1 1 (λ_=>v)->Below w.heap.size w w'->w'.heap.size=w.heap.size+1->K (a.put o.dst (δ (M ⟨w.heap.size,0,none⟩))) w'):WpI P o a w K Q:=by refine⟨?_⟩;unfold Oper.wp θ;simp only[ho,hx,Instr.box,newVar,newRow,newObj,h1];exact (h (w.alloc (.cells ((ω 1).map λ_=>v).toArray ty)) (Cf _ 1 Yc Nj) (bU _ _) (fA _ _))
theorem aSn(H:Cx w0 w l)(h:∀w',Cx w0 w' (vhI ty w.heap.size 1 1 (λ_=>v)::l)->w'.heap.size=w.heap.size+1->V P ops Q rest (D A ((d,δ (M ⟨w.heap.size,0,none⟩))::L)) w')(ho:o.op=.box ty x:=by rfl)(hx:(D A L).eval x=v:=by exact Qv)(h1:v.cells=#[v]:=by rfl)(hd:o.dst=M d:=by rfl)(hw:ε o (ζ ops (D A L).tmps)=true:=by exact fE rfl):V P ops Q (o::rest) (D A L) w:=
 bI hd hw (λ_ hK=>aQE w ty x ho hx h1 (λw' m k z=>hK _ _ (h w' (H.add k _ m (λj (e:j=_)=>Bq e.symm)) z)))
variable{F:It->η It}{cap:G}{g:G->X}
theorem kX{b q N:G}{g':G->X}{u:X}(H:AtK w0 w (vhI t b N cap g) F)(e:∀j,j<N->stW g q u j=g' j)(h:∀w',Cx w0 w' (F (vhI t b N cap g'))->w'.heap.size=w.heap.size->V P ops Q rest (D A L) w')(ho:o.op=.store ty x y:=by rfl)(T:OneK P ty:=by infer_instance)(hx:(D A L).eval x=δ (M ⟨b,q,none⟩):=by exact Qv)(hy:(D A L).eval y=u:=by exact Qv)(hn:q<N:=by omega)(h1:u.oneCell'=true:=by rfl)(h2:u.cells=#[u]:=by rfl)(hd:o.dst=none:=by rfl)(hw:ε o (ζ ops (D A L).tmps)=true:=by exact fE rfl):V P ops Q (o::rest) (D A L) w:=
 lN hw (λ_ hK=>iO w ty x y ho T.out hx hy H.o hn h1 h2 hd (λw' m k z=>hK _ (h w' (H.s k (m.congr e)) z)))
theorem gH{b q N:G}{g':G->X}(H:AtK w0 w (vhI t b N cap g) F)(e:∀j,j<N->stP g q n f j=g' j)(h1:∀j,j<n->(f j).oneCell'=true)(h:∀w',Cx w0 w' (F (vhI t b N cap g'))->w'.heap.size=w.heap.size->V P ops Q rest (D A L) w')(ho:o.op=.store ty x y:=by rfl)(T:ManyK P ty n:=by infer_instance)(hx:(D A L).eval x=δ (M ⟨b,q,none⟩):=by exact Qv)(hy:(D A L).eval y=aX f 0 n:=by exact Qv)(hn:q+n<=N:=by omega)(hd:o.dst=none:=by rfl)(hw:ε o (ζ ops (D A L).tmps)=true:=by exact fE rfl):V P ops Q (o::rest) (D A L) w:=
 lN hw (λ_ hK=>aW w ty x y ho T.out hx hy H.o hn h1 hd (λw' m k z=>hK _ (h w' (H.s k (m.congr e)) z)))
variable{f:μ->X}{vs:η X}{xs:η μ}
theorem aUj(h:f x=v)(t:xs.map f=vs):(x::xs).map f=v::vs:=by rw[Aw,h,t]
variable{R:Ending->O->Prop}{T:τ β}
theorem q_c(hc:υ P n vs.toArray w R)(h:∀e w',R e w'->∃r,e=φ r/\V P ops Q rest (D A ((d,r)::L)) w')(ho:o.op=.call { callee:=.value (.func n),args:=xs.toArray,argTypes:=T }:=by rfl)(hx:xs.map (D A L).eval=vs:=by (repeat (refine aUj Qv ?_));rfl)(hd:o.dst=M d:=by rfl)(hw:ε o (ζ ops (D A L).tmps)=true:=by exact Qw)(E:∀args w,(χ n args).run P w=.ok (.enter n args) w:=by intro _ _;go_simp):V P ops Q (o::rest) (D A L) w:=
 bI hd hw (λ_ hK=>aUh w n xs T ho hx (E _ _) hc (λe w' hr=>Ni))
theorem j_c(hc:υ P n vs.toArray w R)(h:∀e w',R e w'->∃r',e=φ r'/\(late i=false->S w->S w')/\ν P ops Q S late r (D A ((d,r')::L)) w')(ho:ops[i]?=M o:=by rfl)(ho2:o.op=.call { callee:=.value (.func n),args:=xs.toArray,argTypes:=T }:=by rfl)(hx:xs.map (D A L).eval=vs:=by (repeat (refine aUj Qv ?_));rfl)(hd:o.dst=M d:=by rfl)(hw:ε o (ζ ops (D A L).tmps)=true:=by exact Qw)(E:∀args w,(χ n args).run P w=.ok (.enter n args) w:=by intro _ _;go_simp):ν P ops Q S late (.go i r) (D A L) w:=
 dA ho hd hw (λ_ hK=>aUh w n xs T ho2 hx (E _ _) hc (λe w' hr=>by obtain⟨r',h1,h2,h3⟩:=h e w' hr;exact⟨r',h1,hK _ _ h2 h3⟩))
theorem aUc{k N b:G}{f:G->X}(hm:W t w b N cap g)(h1:∀j,j<n->(f j).oneCell'=true)(h:∀w',W t w' b N cap (stP g k n f)->Kept b w w'->w'.heap.size=w.heap.size->(late i=false->S w->S w')/\ν P ops Q S late r (D A L) w')(ho:ops[i]?=M o:=by rfl)(ho2:o.op=.store ty x y:=by rfl)(T:ManyK P ty n:=by infer_instance)(hx:(D A L).eval x=δ (M ⟨b,k,none⟩):=by exact Qv)(hy:(D A L).eval y=aX f 0 n:=by exact Qv)(hn:k+n<=N:=by omega)(hd:o.dst=none:=by rfl)(hw:ε o (ζ ops (D A L).tmps)=true:=by exact Qw):ν P ops Q S late (.go i r) (D A L) w:=
 dK ho hw (λ_ hK=>aW w ty x y ho2 T.out hx hy hm hn h1 hd (λw' m k z=>by obtain⟨h2,h3⟩:=h w' m k z;exact hK _ h2 h3))
end
section
variable {P:γ} {Q:ο->Y->O->Prop} {a:Y} {w:O} {y:Code} {J:Y->O->Prop} {id:G}
theorem fF(h:Q .ret a w):Nx P y Q .ret a w:=h
theorem DJ(h:Q .ret a w):Exit.then J Q .ret a w:=h
theorem lQ(h:Q .ret a w):ρ id Q .ret a w:=h
end
variable{A:Y}{L:η (Nat×Value)}{P:γ}{Q:ο->Y->O->Prop}{c:μ}{t:Bool}{x y:Code}
theorem fB(h1:t=true->U P x Q (D A L) w)(h2:t=false->U P y Q (D A L) w)(hc:(D A L).eval c=ξ t:=by exact Qv):U P (.cond c x y) Q (D A L) w:=mK hc h1 h2
theorem X3(ht:t=true)(h:U P x Q (D A L) w)(hc:(D A L).eval c=ξ t:=by exact Qv):U P (.cond c x y) Q (D A L) w:=mK hc (λ_=>h) (λe=>by rw[ht] at e;cases e)
theorem OG(ht:t=false)(h:U P y Q (D A L) w)(hc:(D A L).eval c=ξ t:=by exact Qv):U P (.cond c x y) Q (D A L) w:=mK hc (λe=>by rw[ht] at e;cases e) (λ_=>h)
structure Wq (q:Prop):Prop where
 o:q
theorem Qz{q:Prop}(h:q)(f:Wq q->p:=by intro h;(repeat (first|refine qa ?_|refine aC ?_|refine aD ?_|refine aH ?_|refine bP ?_|refine aI ?_|refine aR ?_|refine aJ ?_));exact h.o):p:=f ⟨h⟩
theorem Aj:type_of% @Its.cons:=@Its.cons
theorem Ak:type_of% @Its.nil:=@Its.nil
theorem Bl:type_of% @Cx.start:=@Cx.start
end
end Go.Proofs.YthimcecbgpamdaaGreatDoor
