import Derived.Test.YthimcecbgpamdaaGreatDoorNear162
import Derived.Deep.Grids
namespace Go.Proofs.YthimcecbgpamdaaGreatDoor
open Go.ChangeShapes Go.WideShapes Go.ChangeAt Go.RowKit Go.Joins
set_option maxRecDepth 100000
instance:Inhabited Lm:=⟨⟨⟨0,0,0,[]⟩,none,0⟩⟩
def CellK(b:Bool)(v:Value):Prop:=(b=true/\∃x,v=.bool x)\/(b=false/\∃x,v=.int .i64 x/\R64 x)
theorem IR:Tryz.prog.cellsOf 3=1:=Yl
section
variable {H:Type} {enc:TypeId×Value->H} {w:World} {base:Nat} {held:Bool}
def zA(enc:TypeId×Value->H)(w:World)(base:Nat)(held:Bool)(t:TypeId)(n:Nat)(K:Nat->Bool):Prop:=
 Tryz.prog.cellsOf t=n/\∀fuel cs x,DataW.trod enc Tryz.prog w base (λ_=>true) held fuel t cs=some x->∀j v,cs[j]?=some v->CellK (K j) v
theorem flat_int:zA enc w base held 3 1 (λ_=>false):=⟨IR,λfuel cs x h j v hv=>by
 obtain⟨z,rfl,_,hw⟩:=DataW.trod_int Tryz.underlying3 h
 match j,hv with
 |0,hv=>exact Or.inr ⟨rfl,z,(Option.some.inj hv).symm,R64.of_wf hw⟩⟩
variable{cs:List Value}{fuel n:Nat}{t:TypeId}{x:DataW H×List MemPlace}
theorem aFK{e:TypeId}(ht:Tryz.prog.underlying t=some (.array n e))(h:DataW.trod enc Tryz.prog w base (λ_=>true) held fuel t cs=some x):cs.length=Tryz.prog.cellsOf t/\∃m,∀i,i<n->∃y,DataW.trod enc Tryz.prog w base (λ_=>true) held m e ((cs.drop (i*Tryz.prog.cellsOf e)).take (Tryz.prog.cellsOf e))=some y:=by
 cases fuel with
 |zero=>simp[DataW.trod] at h
 |succ m=>
  unfold DataW.trod at h;rw[ht] at h;simp only[Option.ite_none_right_eq_some,Option.map_eq_some_iff] at h;obtain⟨hl,xs,hp,_⟩:=h;refine⟨hl,m,λi hi=>?_⟩;have hg:=mapM_some_get hp i i (by simp[hi]);have hlen:=mapM_some_length hp;rw[List.length_range] at hlen;exact⟨xs[i]'Yo,by rw[hg,List.getElem?_eq_getElem]⟩
theorem tN{o j:Nat}(hj:j<n):((cs.drop o).take n)[j]?=cs[o+j]?:=by
 rw[List.getElem?_take,if_pos hj,List.getElem?_drop]
variable{K:Nat->Bool}
theorem NE{e:TypeId}{m N:Nat}(ht:Tryz.prog.underlying t=some (.array n e))(he:zA enc w base held e m K)(hm:0<m)(hc:Tryz.prog.cellsOf t=N)(hN:N=n*m):zA enc w base held t N (λj=>K (j%m)):=⟨hc,λfuel cs x h j v hv=>by
 obtain⟨hl,q,hx⟩:=aFK ht h;have hj:j<N:=by have:=(List.getElem?_eq_some_iff.1 hv).1;omega
 have hd:j/m<n:=by
  rw[Nat.div_lt_iff_lt_mul hm, <-hN];exact hj
 obtain⟨y,hy⟩:=hx (j/m) hd;rw[he.1] at hy;refine he.2 _ _ _ hy (j%m) v ?_;rw[tN (Nat.mod_lt _ hm), <-hv]
 congr 1
 rw[Nat.mul_comm];exact Nat.div_add_mod j m⟩
variable{fs:Array Field}
theorem N7{i:Nat}{f:Field}(ht:Tryz.prog.underlying t=some (.struct fs))(hf:fs[i]?=some f)(he:zA enc w base held f.type n K)(h:DataW.trod enc Tryz.prog w base (λ_=>true) held fuel t cs=some x):∀j v,j<n->cs[f.offset+j]?=some v->CellK (K j) v:=by
 obtain⟨xs,m,_,_,_,hlen,hx⟩:=DataW.trod_struct ht h;intro j v hj hv;have hg:=hx i f hf;have hi:i<fs.size:=(Array.getElem?_eq_some_iff.1 hf).1;rw[List.getElem?_eq_getElem Yo,he.1] at hg;exact he.2 _ _ _ hg j v (by rw[tN hj];exact hv)
theorem SB{N:Nat}(ht:Tryz.prog.underlying t=some (.struct fs))(hc:Tryz.prog.cellsOf t=N)(ix:Nat->Nat)(hcov:∀j,j<N->∃f n,fs[ix j]?=some f/\f.offset<=j/\j<f.offset+n/\zA enc w base held f.type n (λi=>K (f.offset+i))):zA enc w base held t N K:=⟨hc,λfuel cs x h j v hv=>by
 have hj:j<N:=by
  obtain⟨xs,m,_,_,hl,_⟩:=DataW.trod_struct ht h;have:=(List.getElem?_eq_some_iff.1 hv).1;omega
 obtain⟨f,n,hf,h1,h2,hfl⟩:=hcov j hj;have:=N7 ht hf hfl h (j-f.offset) v Yo (by rw[Nat.add_sub_cancel' h1];exact hv);rw[Nat.add_sub_cancel' h1] at this;exact this⟩
set_option maxRecDepth 100000 in
theorem aHs:zA enc w base held 27 4 (λ_=>false):=SB Tryz.underlying27 Yl id (λj hj=>by
 match j,hj with
 |0,_=>exact⟨_,1,rfl,Xr _,by decide,flat_int⟩
 |1,_=>exact⟨_,1,rfl,Xr _,by decide,flat_int⟩
 |2,_=>exact⟨_,1,rfl,Xr _,by decide,flat_int⟩
 |3,_=>exact⟨_,1,rfl,Xr _,by decide,flat_int⟩)
theorem aHr:zA enc w base held 37 3 (λ_=>false):=NE Tryz.underlying37 flat_int Yc Yl rfl
theorem aDs:zA enc w base held 38 12 (λ_=>false):=NE Tryz.underlying38 aHr Yc Yl rfl
end
def vI:Value->Int
 |.int _ x=>x
 |_=>0
variable{v:Value}
theorem CellK.i(h:CellK false v):iV (vI v)=v:=by
 rcases h with ⟨h,_⟩|⟨_,x,rfl,_⟩
 .cases h
 .rfl
theorem CellK.R{b:Bool}(h:CellK b v):R64 (vI v):=by
 rcases h with ⟨_,x,rfl⟩|⟨_,x,rfl,hx⟩
 .exact R64_nought
 .exact hx
variable{cs:List Value}
theorem aCJ{f:Nat->Value}{n:Nat}(hl:cs.length=n)(h:∀j,j<n->cs[j]?=some (f j)):Value.agg cs.toArray=aP f 0 n:=by
 unfold aP
 congr 2
 refine List.ext_getElem? (λj=>?_);by_cases hj:j<n
 .rw[h j hj,List.getElem?_map,List.getElem?_range hj];show _=some (f (0+j))
  rw[Nat.zero_add]
 .rw[List.getElem?_eq_none Yo,List.getElem?_eq_none (by simp;omega)]
section
variable {H:Type} {enc:TypeId×Value->H} {w:World} {base:Nat} {held:Bool}
theorem ML{o n j0:Nat}{K:Nat->Bool}{K2:Nat->Bool}(h:∀j v,j<n->cs[o+j]?=some v->CellK (K j) v)(hl:o+n<=cs.length)(h1:o<=j0)(h2:j0<o+n)(e:K (j0-o)=K2 j0):CellK (K2 j0) (cs.getD j0 (.int .i64 0)):=by
 rw[<-e];refine h (j0-o) _ Yo ?_;rw[Nat.add_sub_cancel' h1,List.getD_eq_getElem?_getD,List.getElem?_eq_getElem Yo];rfl
variable{d:DataW H}{p:List MemPlace}
set_option maxRecDepth 100000 in
theorem WT{r:Reach}{b0:Nat}(hv:Value.okWide Tryz.prog w r b0 27 v)(h:DataW.Trod enc Tryz.prog w base (λ_=>true) held 27 v d p):∃t:Tn,v=aP (kW t) 0 4/\t.Ok:=by
 obtain⟨cs,rfl,hs⟩:=okWide_struct Tryz.underlying27 hv;obtain⟨fuel,hf⟩:=h;have hf':DataW.trod enc Tryz.prog w base (λ_=>true) held fuel 27 cs.toList=some (d,p):=hf;have hl:cs.toList.length=4:=by rw[Array.length_toList,hs];kernel_rfl
 have hg:∀j,j<4->CellK false (cs.toList.getD j (.int .i64 0)):=λj hj=>aHs.2 _ _ _ hf' j _ (by rw[List.getD_eq_getElem?_getD,List.getElem?_eq_getElem Yo];rfl)
 refine⟨⟨vI (cs.toList.getD 0 (.int .i64 0)),vI (cs.toList.getD 1 (.int .i64 0)),vI (cs.toList.getD 2 (.int .i64 0)),vI (cs.toList.getD 3 (.int .i64 0))⟩,?_,(hg 0 Yo).R,(hg 1 Yo).R,(hg 2 Yo).R,(hg 3 Yo).R⟩;have:=aCJ hl (f:=kW ⟨vI (cs.toList.getD 0 (.int .i64 0)),vI (cs.toList.getD 1 (.int .i64 0)),vI (cs.toList.getD 2 (.int .i64 0)),vI (cs.toList.getD 3 (.int .i64 0))⟩) (λj hj=>by
  have e:cs.toList[j]?=some (cs.toList.getD j (.int .i64 0)):=by rw[List.getD_eq_getElem?_getD,List.getElem?_eq_getElem Yo];rfl
  rw[e]
  congr 1
  match j,hj with
  |0,_=>exact (hg 0 Yo).i.symm
  |1,_=>exact (hg 1 Yo).i.symm
  |2,_=>exact (hg 2 Yo).i.symm
  |3,_=>exact (hg 3 Yo).i.symm)
 rwa [Array.toArray_toList] at this
variable{l:List (DataW H)}
theorem FC{e:TypeId}(hd:d∈l):∀n,n∈d.weights Tryz.prog e->n∈DataW.weightsAll Tryz.prog e l:=by
 induction l with
 |nil=>cases hd
 |cons x l ih=>
  intro n hn;unfold DataW.weightsAll;rcases List.mem_cons.1 hd with rfl|hd
  .exact List.mem_append.2 (Or.inl hn)
  .exact List.mem_append.2 (Or.inr (ih hd n hn))
end
end Go.Proofs.YthimcecbgpamdaaGreatDoor
namespace Go.Proofs.YthimcecbgpamdaaGreatDoor
open Go.ChangeShapes Go.WideShapes Go.ChangeAt Go.RowKit Go.Joins
set_option maxRecDepth 100000
def ArgB(w:World)(ao:Option Addr)(len cap:Nat)(g:Nat->Nat):Prop:=
 Sr w ao len cap (bF g)/\len<=140737488351232/\(∀i,g i<256)/\len<=cap
variable{ao:Option Addr}
theorem ArgB.below{w w':World}{len cap:Nat}{g:Nat->Nat}(h:ArgB w ao len cap g)(k:Below w.heap.size w w'):ArgB w' ao len cap g:=⟨h.1.below k,h.2⟩
theorem ZF:Tryz.prog.bytesOf 5=1:=Yl
theorem ZG:Tryz.prog.cellsOf 5=1:=Yl
section
variable {H:Type} {enc:TypeId×Value->H} {w:World} {base:Nat} {held:Bool}
variable{x:DataW H×List MemPlace}
set_option maxRecDepth 100000 in
theorem WS{fuel:Nat}{v:Value}(h:DataW.trod enc Tryz.prog w base (λ_=>true) held fuel 65 [v]=some x)(hsz:∀n∈x.1.weights Tryz.prog 65,n<=reachBytes):∃ao len cap g,v=.slice ao len cap/\ArgB w ao len cap g:=by
 rcases open_ints Tryz.underlying65 Tryz.underlying5 ZG h with ⟨hcs,_⟩|⟨a,len,cap,zs,hcs,_,hl,_,hz,hx,hcell,hwz⟩
 .simp at hcs;exact⟨none,0,0,λ_=>0,hcs,Or.inl ⟨rfl,rfl,rfl⟩,by decide,λ_=>by show 0<256;omega,Xr _⟩
 .simp at hcs;have hz':zs.length=cap:=by simpa using hz
  have hb:zs.length*1<=reachBytes:=by
   refine hsz _ ?_;rw[hx];simp[DataW.weights,Tryz.underlying65,ZF,lits];left;omega
  have hw:∀i,i<zs.length->0<=zs.getD i 0/\zs.getD i 0<256:=by
   intro i hi;have e:zs.getD i 0=zs[i]:=by simp[List.getD,hi]
   have:=hwz _ (List.getElem_mem hi);rw[e];simp[Lit.wf,IntKind.min,IntKind.max,IntKind.bits,IntKind.signed] at this;omega
  refine⟨some a,len,cap,λi=>if i<len then (zs.getD i 0).toNat else 0,hcs,Or.inr ⟨a,rfl,λi hi=>?_⟩,by unfold reachBytes at hb;omega,λi=>?_,hl⟩
  .rw[hcell i Yo];show some (Value.int .u8 (zs.getD i 0))=some (Value.int .u8 ((if i<len then (zs.getD i 0).toNat else 0:Nat):Int))
   rw[if_pos hi,Int.toNat_of_nonneg (hw i Yo).1]
  .show (if i<len then (zs.getD i 0).toNat else 0)<256
   split
   .have:=hw i Yo;omega
   .omega
end
end Go.Proofs.YthimcecbgpamdaaGreatDoor
namespace Go.Proofs.YthimcecbgpamdaaGreatDoor
open Go
variable{K:Act->World->Prop}{P:Program}{Q:Exit->Act->World->Prop}{a:Act}{o:Oper}
theorem qH(w:World)(n:Nat)(x y z u:Operand)(T:Array TypeId)(ho:o.op=.call { callee:=.value (.func n),args:=#[x,y,z,u],argTypes:=T }){p q r s:Value}(hx:a.eval x=p)(hy:a.eval y=q)(hz:a.eval z=r)(hu:a.eval u=s)(hf:(callFunc n #[p,q,r,s]).run P w=.ok (.enter n #[p,q,r,s]) w){R:Ending->World->Prop}(hc:Calls P n #[p,q,r,s] w R)(h:∀e w',R e w'->∃r,e=.returned r/\K (a.put o.dst r) w'):WpI P o a w K Q:=by
 refine⟨?_⟩;have e:(execOp a.eval o).run P w=.ok (.enter n #[p,q,r,s]) w:=by
  unfold execOp;rw[ho];have hv2:a.eval (Operand.func n)=.func (.func n) #[] #[]:=rfl;simp only[resolve,invoke,Sem.run_bind,List.map_toArray,List.map_cons,List.map_nil,hx,hy,hz,hu,hv2];go_simp
 unfold Oper.wp;rw[e,Oper.upon_enter];refine hc.mono ?_;intro e w' hr;obtain⟨r,rfl,hk⟩:=h e w' hr;exact hk
theorem gT(w:World)(n:Nat)(x y z:Operand)(T:Array TypeId)(ho:o.op=.call { callee:=.value (.func n),args:=#[x,y,z],argTypes:=T }){p q r:Value}(hx:a.eval x=p)(hy:a.eval y=q)(hz:a.eval z=r)(hf:(callFunc n #[p,q,r]).run P w=.ok (.enter n #[p,q,r]) w){R:Ending->World->Prop}(hc:Calls P n #[p,q,r] w R)(h:∀e w',R e w'->∃r,e=.returned r/\K (a.put o.dst r) w'):WpI P o a w K Q:=by
 refine⟨?_⟩;have e:(execOp a.eval o).run P w=.ok (.enter n #[p,q,r]) w:=by
  unfold execOp;rw[ho];have hv2:a.eval (Operand.func n)=.func (.func n) #[] #[]:=rfl;simp only[resolve,invoke,Sem.run_bind,List.map_toArray,List.map_cons,List.map_nil,hx,hy,hz,hv2];go_simp
 unfold Oper.wp;rw[e,Oper.upon_enter];refine hc.mono ?_;intro e w' hr;obtain⟨r,rfl,hk⟩:=h e w' hr;exact hk
end Go.Proofs.YthimcecbgpamdaaGreatDoor
namespace Go.Proofs.YthimcecbgpamdaaGreatDoor
open Go.RowKit
structure It where
 p:World->Prop
 foot:Nat->Prop
 ok:∀{w w':World},p w->(∀k,k<w.heap.size->foot k->w'.heap[k]?=w.heap[k]?)->p w'
 lt:∀{w:World} {k:Nat},p w->foot k->k<w.heap.size
variable{n:Nat}{t:TypeId}{w:World}
theorem X7{B s:Nat}{w':World}{v:Value}{xs:List Value}(h:w.ownsRow B t s v n xs)(e:∀k,v.ownBlock=some k->w'.heap[k]?=w.heap[k]?):w'.ownsRow B t s v n xs:=by
 refine⟨h.1,?_⟩;rcases h.2 with hn|⟨g,cap,cur,rfl,hb,hgg,rest⟩
 .exact .inl hn
 .exact .inr ⟨g,cap,cur,rfl,hb,(e g rfl).trans hgg,rest⟩
def bE(t:TypeId)(b N cap:Nat)(g:Nat->Value):It:=⟨λw=>Vh t w b N cap g,λk=>k=b,λh e=>Vh.same h (e _ h.lt rfl),λh e=>e ▸ h.lt⟩
def fF(B:Nat)(t:TypeId)(s:Nat)(v:Value)(n:Nat)(xs:List Value):It:=⟨λw=>w.ownsRow B t s v n xs,λk=>v.ownBlock=some k,λh e=>X7 h (λk hk=>e k (h.lt k hk).2 hk),λh e=>(h.lt _ e).2⟩
structure Cx (w0 w:World) (l:List It):Prop where
 bel:Below w0.heap.size w0 w
 it:∀x,x∈l->x.p w
 up:∀x,x∈l->∀k,x.foot k->w0.heap.size<=k
 dis:l.Pairwise λx y=>∀k,x.foot k->¬y.foot k
section
variable {w0 w w':World} {l a b:List It} {x y:It}
theorem Cx.start(w0:World):Cx w0 w0 []:=⟨Below.refl _ _,λ_ h=>(by cases h),λ_ h=>(by cases h),List.Pairwise.nil⟩
theorem Cx.size(H:Cx w0 w l):w0.heap.size<=w.heap.size:=H.bel.size
theorem Cx.call(H:Cx w0 w l)(k:Below w.heap.size w w'):Cx w0 w' l:=⟨H.bel.trans (k.mono H.size),λx hx=>x.ok (H.it x hx) (λj hj _=>k.block j hj),H.up,H.dis⟩
theorem Cx.drew(H:Cx w0 w l):Cx w0 w.drew l:=H.call ⟨rfl,rfl,rfl,Xr _,λ_ _=>rfl⟩
theorem Cx.add(H:Cx w0 w l)(k:Below w.heap.size w w')(x:It)(hx:x.p w')(hf:∀j,x.foot j->w.heap.size<=j):Cx w0 w' (x::l):=by
 have H':=H.call k;have hs:=H.size;refine⟨H'.bel,λy hy=>?_,λy hy j hj=>?_,List.Pairwise.cons (λy hy j h1 h2=>?_) H.dis⟩
 .rcases List.mem_cons.1 hy with rfl|hy
  .exact hx
  .exact H'.it y hy
 .rcases List.mem_cons.1 hy with rfl|hy
  .have:=hf j hj;omega
  .exact H.up y hy j hj
 .have h3:=hf j h1;have h4:=y.lt (H.it y hy) h2;omega
structure Chg (w w':World) (x y:It):Prop where
 os:w'.os=w.os
 tape:w'.tape=w.tape
 output:w'.output=w.output
 size:w.heap.size<=w'.heap.size
 hk:∀k,k<w.heap.size->¬x.foot k->w'.heap[k]?=w.heap[k]?
 hy:y.p w'
 hf:∀j,y.foot j->x.foot j\/w.heap.size<=j
theorem Cx.p0(H:Cx w0 w (x::b))(c:Chg w w' x y):Cx w0 w' (y::b):=by
 have hs:=H.size;obtain⟨d4,d5⟩:=List.pairwise_cons.1 H.dis;have hx:x∈x::b:=List.mem_cons_self;have inB:∀z,z∈b->z∈x::b:=λz hz=>List.mem_cons_of_mem _ hz
 refine⟨⟨c.os.trans H.bel.os,c.tape.trans H.bel.tape,c.output.trans H.bel.output,Nat.le_trans H.bel.size c.size,λk hkk=>(c.hk k Yo (λe=>by have:=H.up x hx k e;omega)).trans (H.bel.block k hkk)⟩,λz hz=>?_,λz hz j hj=>?_,List.pairwise_cons.2 ⟨λz hz j h1 h2=>?_,d5⟩⟩
 .rcases List.mem_cons.1 hz with rfl|hz
  .exact c.hy
  .exact z.ok (H.it z (inB z hz)) (λk h1 h2=>c.hk k h1 (λh3=>d4 z hz k h3 h2))
 .rcases List.mem_cons.1 hz with rfl|hz
  .rcases c.hf j hj with h|h
   .exact H.up x hx j h
   .omega
  .exact H.up z (inB z hz) j hj
 .rcases c.hf j h1 with h|h
  .exact d4 z hz j h h2
  .have:=z.lt (H.it z (inB z hz)) h2;omega
variable{m:List It}
theorem Cx.sub(H:Cx w0 w l)(h:m.Sublist l):Cx w0 w m:=⟨H.bel,λx hx=>H.it x (h.subset hx),λx hx=>H.up x (h.subset hx),H.dis.sublist h⟩
theorem Cx.perm(H:Cx w0 w l)(h:l.Perm m):Cx w0 w m:=⟨H.bel,λx hx=>H.it x (h.mem_iff.2 hx),λx hx=>H.up x (h.mem_iff.2 hx),H.dis.perm h (λh1 k h2 h3=>h1 k h3 h2)⟩
theorem Cx.base{v0:World}(H:Cx w0 w l)(k:Below v0.heap.size v0 w0)(hs:v0.heap.size<=w0.heap.size):Cx v0 w l:=⟨k.trans (H.bel.mono hs),H.it,λx hx j hj=>Nat.le_trans hs (H.up x hx j hj),H.dis⟩
theorem Cx.tl(H:Cx w0 w (x::l)):Cx w0 w l:=H.sub (List.sublist_cons_self x l)
end
structure Its (l:List It) (w:World):Prop where
 it:∀x,x∈l->x.p w
theorem Its.nil(w:World):Its [] w:=⟨λ_ h=>(by cases h)⟩
variable{l:List It}{x:It}
theorem Its.cons(h:x.p w)(t:Its l w):Its (x::l) w:=⟨λy hy=>by
 rcases List.mem_cons.1 hy with rfl|hy
 .exact h
 .exact t.it y hy⟩
theorem Its.tl(h:Its (x::l) w):Its l w:=⟨λy hy=>h.it y (List.mem_cons_of_mem _ hy)⟩
structure AtK (w0 w:World) (x:It) (F:It->List It):Prop where
 o:x.p w
 size:w0.heap.size<=w.heap.size
 put:∀{w':World} {y:It},Chg w w' x y->Cx w0 w' (F y)
section
variable {w0 w w':World} {x0 x1 x2 x3 x4 x5 x6 x7 x8 x:It} {l:List It} {t:TypeId} {b N cap:Nat} {g g':Nat->Value} {F:It->List It}
theorem AtK.s(H:AtK w0 w (bE t b N cap g) F)(k:Kept b w w')(m:Vh t w' b N cap g'):Cx w0 w' (F (bE t b N cap g')):=H.put ⟨k.os,k.tape,k.output,k.size,λj h1 h2=>k.block j h1 h2,m,λ_ h=>Or.inl h⟩
theorem Cx.o0(H:Cx w0 w (x::l)):x.p w:=H.it _ List.mem_cons_self
theorem Cx.v0(H:Cx w0 w (bE t b N cap g::l)):Vh t w b N cap g:=H.o0
theorem Its.v0(H:Its (bE t b N cap g::l) w):Vh t w b N cap g:=H.it _ List.mem_cons_self
theorem Cx.a0(H:Cx w0 w (x::l)):AtK w0 w x (λy=>y::l):=⟨H.o0,H.size,λc=>H.p0 c⟩
theorem Cx.f1(H:Cx w0 w (x0::x::l)):Cx w0 w (x::x0::l):=H.perm (List.perm_middle (l₁:=[x0]))
theorem Cx.b1(H:Cx w0 w (x::x0::l)):Cx w0 w (x0::x::l):=H.perm (List.perm_middle (l₁:=[x0])).symm
theorem Cx.o1(H:Cx w0 w (x0::x::l)):x.p w:=H.f1.o0
theorem Cx.v1(H:Cx w0 w (x0::bE t b N cap g::l)):Vh t w b N cap g:=H.o1
theorem Its.v1(H:Its (x0::bE t b N cap g::l) w):Vh t w b N cap g:=H.tl.v0
theorem Cx.a1(H:Cx w0 w (x0::x::l)):AtK w0 w x (λy=>x0::y::l):=⟨H.o1,H.size,λc=>(H.f1.p0 c).b1⟩
theorem Cx.f2(H:Cx w0 w (x0::x1::x::l)):Cx w0 w (x::x0::x1::l):=H.perm (List.perm_middle (l₁:=[x0,x1]))
theorem Cx.b2(H:Cx w0 w (x::x0::x1::l)):Cx w0 w (x0::x1::x::l):=H.perm (List.perm_middle (l₁:=[x0,x1])).symm
theorem Cx.o2(H:Cx w0 w (x0::x1::x::l)):x.p w:=H.f2.o0
theorem Cx.v2(H:Cx w0 w (x0::x1::bE t b N cap g::l)):Vh t w b N cap g:=H.o2
theorem Its.v2(H:Its (x0::x1::bE t b N cap g::l) w):Vh t w b N cap g:=H.tl.v1
theorem Cx.a2(H:Cx w0 w (x0::x1::x::l)):AtK w0 w x (λy=>x0::x1::y::l):=⟨H.o2,H.size,λc=>(H.f2.p0 c).b2⟩
theorem Cx.f3(H:Cx w0 w (x0::x1::x2::x::l)):Cx w0 w (x::x0::x1::x2::l):=H.perm (List.perm_middle (l₁:=[x0,x1,x2]))
theorem Cx.b3(H:Cx w0 w (x::x0::x1::x2::l)):Cx w0 w (x0::x1::x2::x::l):=H.perm (List.perm_middle (l₁:=[x0,x1,x2])).symm
theorem Cx.o3(H:Cx w0 w (x0::x1::x2::x::l)):x.p w:=H.f3.o0
theorem Cx.v3(H:Cx w0 w (x0::x1::x2::bE t b N cap g::l)):Vh t w b N cap g:=H.o3
theorem Its.v3(H:Its (x0::x1::x2::bE t b N cap g::l) w):Vh t w b N cap g:=H.tl.v2
theorem Cx.a3(H:Cx w0 w (x0::x1::x2::x::l)):AtK w0 w x (λy=>x0::x1::x2::y::l):=⟨H.o3,H.size,λc=>(H.f3.p0 c).b3⟩
theorem Cx.f4(H:Cx w0 w (x0::x1::x2::x3::x::l)):Cx w0 w (x::x0::x1::x2::x3::l):=H.perm (List.perm_middle (l₁:=[x0,x1,x2,x3]))
theorem Cx.b4(H:Cx w0 w (x::x0::x1::x2::x3::l)):Cx w0 w (x0::x1::x2::x3::x::l):=H.perm (List.perm_middle (l₁:=[x0,x1,x2,x3])).symm
theorem Cx.o4(H:Cx w0 w (x0::x1::x2::x3::x::l)):x.p w:=H.f4.o0
theorem Cx.v4(H:Cx w0 w (x0::x1::x2::x3::bE t b N cap g::l)):Vh t w b N cap g:=H.o4
theorem Its.v4(H:Its (x0::x1::x2::x3::bE t b N cap g::l) w):Vh t w b N cap g:=H.tl.v3
theorem Cx.a4(H:Cx w0 w (x0::x1::x2::x3::x::l)):AtK w0 w x (λy=>x0::x1::x2::x3::y::l):=⟨H.o4,H.size,λc=>(H.f4.p0 c).b4⟩
theorem Cx.f5(H:Cx w0 w (x0::x1::x2::x3::x4::x::l)):Cx w0 w (x::x0::x1::x2::x3::x4::l):=H.perm (List.perm_middle (l₁:=[x0,x1,x2,x3,x4]))
theorem Cx.b5(H:Cx w0 w (x::x0::x1::x2::x3::x4::l)):Cx w0 w (x0::x1::x2::x3::x4::x::l):=H.perm (List.perm_middle (l₁:=[x0,x1,x2,x3,x4])).symm
theorem Cx.o5(H:Cx w0 w (x0::x1::x2::x3::x4::x::l)):x.p w:=H.f5.o0
theorem Cx.v5(H:Cx w0 w (x0::x1::x2::x3::x4::bE t b N cap g::l)):Vh t w b N cap g:=H.o5
theorem Its.v5(H:Its (x0::x1::x2::x3::x4::bE t b N cap g::l) w):Vh t w b N cap g:=H.tl.v4
theorem Cx.a5(H:Cx w0 w (x0::x1::x2::x3::x4::x::l)):AtK w0 w x (λy=>x0::x1::x2::x3::x4::y::l):=⟨H.o5,H.size,λc=>(H.f5.p0 c).b5⟩
theorem Cx.f6(H:Cx w0 w (x0::x1::x2::x3::x4::x5::x::l)):Cx w0 w (x::x0::x1::x2::x3::x4::x5::l):=H.perm (List.perm_middle (l₁:=[x0,x1,x2,x3,x4,x5]))
theorem Cx.b6(H:Cx w0 w (x::x0::x1::x2::x3::x4::x5::l)):Cx w0 w (x0::x1::x2::x3::x4::x5::x::l):=H.perm (List.perm_middle (l₁:=[x0,x1,x2,x3,x4,x5])).symm
theorem Cx.o6(H:Cx w0 w (x0::x1::x2::x3::x4::x5::x::l)):x.p w:=H.f6.o0
theorem Cx.v6(H:Cx w0 w (x0::x1::x2::x3::x4::x5::bE t b N cap g::l)):Vh t w b N cap g:=H.o6
theorem Its.v6(H:Its (x0::x1::x2::x3::x4::x5::bE t b N cap g::l) w):Vh t w b N cap g:=H.tl.v5
theorem Cx.a6(H:Cx w0 w (x0::x1::x2::x3::x4::x5::x::l)):AtK w0 w x (λy=>x0::x1::x2::x3::x4::x5::y::l):=⟨H.o6,H.size,λc=>(H.f6.p0 c).b6⟩
theorem Cx.f7(H:Cx w0 w (x0::x1::x2::x3::x4::x5::x6::x::l)):Cx w0 w (x::x0::x1::x2::x3::x4::x5::x6::l):=H.perm (List.perm_middle (l₁:=[x0,x1,x2,x3,x4,x5,x6]))
theorem Cx.o7(H:Cx w0 w (x0::x1::x2::x3::x4::x5::x6::x::l)):x.p w:=H.f7.o0
theorem Cx.v7(H:Cx w0 w (x0::x1::x2::x3::x4::x5::x6::bE t b N cap g::l)):Vh t w b N cap g:=H.o7
theorem Its.v7(H:Its (x0::x1::x2::x3::x4::x5::x6::bE t b N cap g::l) w):Vh t w b N cap g:=H.tl.v6
theorem Cx.f8(H:Cx w0 w (x0::x1::x2::x3::x4::x5::x6::x7::x::l)):Cx w0 w (x::x0::x1::x2::x3::x4::x5::x6::x7::l):=H.perm (List.perm_middle (l₁:=[x0,x1,x2,x3,x4,x5,x6,x7]))
theorem Cx.b8(H:Cx w0 w (x::x0::x1::x2::x3::x4::x5::x6::x7::l)):Cx w0 w (x0::x1::x2::x3::x4::x5::x6::x7::x::l):=H.perm (List.perm_middle (l₁:=[x0,x1,x2,x3,x4,x5,x6,x7])).symm
theorem Cx.o8(H:Cx w0 w (x0::x1::x2::x3::x4::x5::x6::x7::x::l)):x.p w:=H.f8.o0
theorem Cx.v8(H:Cx w0 w (x0::x1::x2::x3::x4::x5::x6::x7::bE t b N cap g::l)):Vh t w b N cap g:=H.o8
theorem Its.v8(H:Its (x0::x1::x2::x3::x4::x5::x6::x7::bE t b N cap g::l) w):Vh t w b N cap g:=H.tl.v7
theorem Cx.a8(H:Cx w0 w (x0::x1::x2::x3::x4::x5::x6::x7::x::l)):AtK w0 w x (λy=>x0::x1::x2::x3::x4::x5::x6::x7::y::l):=⟨H.o8,H.size,λc=>(H.f8.p0 c).b8⟩
theorem Cx.f9(H:Cx w0 w (x0::x1::x2::x3::x4::x5::x6::x7::x8::x::l)):Cx w0 w (x::x0::x1::x2::x3::x4::x5::x6::x7::x8::l):=H.perm (List.perm_middle (l₁:=[x0,x1,x2,x3,x4,x5,x6,x7,x8]))
theorem Cx.o9(H:Cx w0 w (x0::x1::x2::x3::x4::x5::x6::x7::x8::x::l)):x.p w:=H.f9.o0
theorem Cx.v9(H:Cx w0 w (x0::x1::x2::x3::x4::x5::x6::x7::x8::bE t b N cap g::l)):Vh t w b N cap g:=H.o9
theorem Its.v9(H:Its (x0::x1::x2::x3::x4::x5::x6::x7::x8::bE t b N cap g::l) w):Vh t w b N cap g:=H.tl.v8
end
class FldK (P:Program) (s:TypeId) (k:Nat) (d:outParam Nat):Prop where
 run:∀{f:Operand->Value} {o:Oper} {x:Operand} {b off:Nat},o.op=.fieldAddr s x k->f x=.pointer (some ⟨b,off,none⟩)->∀w,(execOp f o).run P w=.ok (.value (.pointer (some ⟨b,off+d,none⟩))) w
class ManyK (P:Program) (t:TypeId) (n:outParam Nat):Prop where
 out:Many P t n
class OneK (P:Program) (t:TypeId):Prop where
 out:OneC P t
class SizK (P:Program) (t:TypeId) (n:outParam Nat):Prop where
 out:∀w,(sizeOf t).run P w=.ok n w
class ArrK (P:Program) (s:TypeId) (len:outParam Nat) (e:outParam TypeId):Prop where
 out:P.underlying s=some (.array len e)
class SlcK (P:Program) (s:TypeId) (e:outParam TypeId):Prop where
 out:P.underlying s=some (.slice e)
class ZerK (P:Program) (t:TypeId) (n:outParam Nat) (f:outParam (Nat->Value)):Prop where
 out:∀w,(zeroValue t).run P w=.ok (aP f 0 n) w
class Zer1 (P:Program) (t:TypeId) (v:outParam Value):Prop where
 out:∀w,(zeroValue t).run P w=.ok v w
 one:v.cells=#[v]
class EntK (P:Program) (n:Nat):Prop where
 out:∀args w,(callFunc n args).run P w=.ok (.enter n args) w
class LenK (P:Program) (t:TypeId):Prop where
 run:∀{f:Operand->Value} {o:Oper} {x:Operand} {ao:Option Addr} {n c:Nat},o.op=.call { callee:=.builtin .len,args:=#[x],argTypes:=#[t] }->f x=.slice ao n c->∀w,(execOp f o).run P w=.ok (.value (.int .i64 ((n:Nat):Int))) w
instance {P:Program} {t:TypeId} {n:Nat} [h:ManyK P t n]:SizK P t n:=⟨h.out.size⟩
instance {P:Program} {t:TypeId} [h:OneK P t]:SizK P t 1:=⟨h.out.size⟩
section
variable {P:Program} {f:Operand->Value} {o:Oper}
theorem PX(x:Operand)(ho:o.op=.nilCheck x){a:Addr}(hx:f x=.pointer (some a))(w:World):(execOp f o).run P w=.ok (.value (.pointer (some a))) w:=Ykq
theorem eB(s e:TypeId)(x y:Operand)(ho:o.op=.indexAddr s x y)(hu:P.underlying s=some (.slice e))(hs:∀w,(sizeOf e).run P w=.ok n w){b off i len cap:Nat}{z:Int}(hx:f x=.slice (some ⟨b,off,none⟩) len cap)(hy:f y=.int .i64 z)(hz:z=(i:Int))(hi:i<len)(w:World):(execOp f o).run P w=.ok (.value (.pointer (some ⟨b,off+i*n,none⟩))) w:=by
 subst hz;have h2:(i:Int)<(len:Int):=Yo;unfold execOp;simp only[ho,hx,hy,Instr.indexAt,asIntOf,Instr.sureAddr,Sem.run_bind,Sem.run_pure,Result.andThen_ok,run_underlying hu,add_at];simp[h2,hs]
theorem qE{ty:TypeId}{x:Operand}(T:Many P ty n){b off:Nat}{g:Nat->Value}(hc:∀k,k<n->w.cell? ⟨b,off+k,none⟩=some (g k))(ho:o.op=.load ty x)(hx:f x=.pointer (some ⟨b,off,none⟩)):(execOp f o).run P w=.ok (.value (aP g 0 n)) w:=by
 have hl:(loadCells ⟨b,off,none⟩ n).run P w=.ok ((List.range n).map λj=>g (0+j)).toArray w:=
  run_loadCells w ⟨b,off,none⟩ n (λj=>g (0+j)) (λj hj=>by rw[add_at,Nat.zero_add];exact hc j hj)
 unfold execOp;simp only[ho,hx,Instr.loadAt,Instr.sureAddr,loadVar,Sem.run_bind,Sem.run_pure,Result.andThen_ok,T.agg,T.size,hl,if_true];rfl
variable{vs:Array Value}
theorem VD(fn:Fn)(xs:Array Operand)(ho:o.op=.makeFunc fn #[] xs)(hx:xs.map f=vs)(w:World):(execOp f o).run P w=.ok (.value (.func fn #[] vs)) w:=Yg
theorem aHp(a:Act)(n:Nat):a.eval (.func n)=.func (.func n) #[] #[]:=rfl
end
variable{p:Prop}
theorem Qv(h:p:=by first|exact LJ rfl Yo|exact vE rfl (by assumption)|exact aI _ _|exact aHp _ _):p:=h
theorem Qh(h:p:=by first|exact H.v0|exact H.v1|exact H.v2|exact H.v3|exact H.v4|exact H.v5|exact H.v6|exact H.v7|exact H.v8|exact H.v9|exact Vh.below G0 H.bel|exact Vh.below G1 H.bel|exact Vh.below G2 H.bel|assumption):p:=h
section
variable {P:Program} {ops:Array Oper} {Q:Exit->Act->World->Prop} {A:Act} {L:List (Nat×Value)} {w0 w:World} {rest:List Oper} {o:Oper} {d:Nat} {v:Value} {l:List It}
theorem qa (h : LstI P ops Q rest (aL A ((d, v) :: L)) w) (hd : o.dst = some d := by rfl) (hw : Region.wanted o (yielded ops (aL A L).tmps) = true := by first | exact cB rfl | exact eH rfl rfl rfl Qv) (hy : (execOp (aL A L).eval o).run P w = .ok (.value v) w := by first
   |exact eG _ rfl Qv _
   |exact mW _ rfl Qv _
   |exact FldK.run rfl Qv _
   |exact aR _ _ rfl OneK.out Qv Qh Yo rfl
   |exact aV _ _ rfl ManyK.out Qv Qh Yo
   |exact PX _ rfl Qv _
   |exact bQ _ _ _ _ rfl ArrK.out SizK.out Qv Qv rfl Yo _
   |exact eB _ _ _ _ rfl SlcK.out SizK.out Qv Qv rfl Yo _
   |exact jQ _ _ _ _ rfl ArrK.out ManyK.out Qv rfl Qv rfl Yo _
   |exact jP _ _ _ _ rfl ArrK.out OneK.out Qv Qv rfl Yo _
   |exact LenK.run rfl Qv _
   |exact iC _ _ rfl Qv Qv rfl _
   |exact fV _ _ rfl Qv Qv rfl _
   |exact bT _ _ rfl Qv Qv rfl _
   |exact dC _ _ rfl Qv Qv rfl _
   |exact wD _ _ rfl Qv Qv rfl _
   |exact fU _ _ rfl Qv Qv rfl _
   |exact vZ _ _ rfl Qv Qv rfl _
   |exact nQ _ _ rfl Qv Qv rfl _
   |exact jO _ _ rfl Qv Qv Yo Yo _
   |exact A8 _ _ rfl Qv Qv Yo Yo _
   |exact zZ _ _ rfl Qv _
   |exact rV _ rfl Qv _
   |exact rW _ rfl Qv _
   |exact jZ _ rfl Qv _
   |exact kE _ rfl Qv _
   |exact kF _ rfl Qv _):LstI P ops Q (o::rest) (aL A L) w:=OA hd hw hy h
theorem gM(h:LstI P ops Q rest (aL A ((d,undef)::L)) w)(hd:o.dst=some d:=by rfl)(hw:Region.wanted o (yielded ops (aL A L).tmps)=false:=by first|exact E9 rfl rfl rfl Qv Yc|exact wanted_u rfl rfl rfl Qv):LstI P ops Q (o::rest) (aL A L) w:=aAH hd hw h
theorem qg(hy:(execOp (aL A L).eval o).run P w=.ok (.value v) w)(h:LstI P ops Q rest (aL A ((d,v)::L)) w)(hd:o.dst=some d:=by rfl)(hw:Region.wanted o (yielded ops (aL A L).tmps)=true:=by first|exact cB rfl|exact eH rfl rfl rfl Qv):LstI P ops Q (o::rest) (aL A L) w:=OA hd hw hy h
variable {S:World->Prop} {late:Nat->Bool} {i:Nat} {r:PlanJ}
theorem qj (h : SeqJ P ops Q S late r (aL A ((d, v) :: L)) w) (ho : ops[i]? = some o := by rfl) (hd : o.dst = some d := by rfl) (hQ : ∀ c a w, Q (.panic c) (a.put (some d) v) w -> Q (.panic c) a w := by exact λ_ _ _ h => h) (hw : Region.wanted o (yielded ops (aL A L).tmps) = true := by first | exact cB rfl | exact eH rfl rfl rfl Qv) (hy : ∀ w, (execOp (aL A L).eval o).run P w = .ok (.value v) w := by first
   |exact λw=>eG _ rfl Qv w
   |exact λw=>mW _ rfl Qv w
   |exact λw=>FldK.run rfl Qv w
   |exact λw=>PX _ rfl Qv w
   |exact λw=>bQ _ _ _ _ rfl ArrK.out SizK.out Qv Qv rfl Yo w
   |exact λw=>eB _ _ _ _ rfl SlcK.out SizK.out Qv Qv rfl Yo w
   |exact λw=>jQ _ _ _ _ rfl ArrK.out ManyK.out Qv rfl Qv rfl Yo w
   |exact λw=>jP _ _ _ _ rfl ArrK.out OneK.out Qv Qv rfl Yo w
   |exact λw=>LenK.run rfl Qv w
   |exact λw=>iC _ _ rfl Qv Qv rfl w
   |exact λw=>fV _ _ rfl Qv Qv rfl w
   |exact λw=>bT _ _ rfl Qv Qv rfl w
   |exact λw=>dC _ _ rfl Qv Qv rfl w
   |exact λw=>wD _ _ rfl Qv Qv rfl w
   |exact λw=>fU _ _ rfl Qv Qv rfl w
   |exact λw=>vZ _ _ rfl Qv Qv rfl w
   |exact λw=>nQ _ _ rfl Qv Qv rfl w
   |exact λw=>jO _ _ rfl Qv Qv Yo Yo w
   |exact λw=>A8 _ _ rfl Qv Qv Yo Yo w
   |exact λw=>zZ _ _ rfl Qv w
   |exact λw=>rV _ rfl Qv w
   |exact λw=>rW _ rfl Qv w
   |exact λw=>jZ _ rfl Qv w
   |exact λw=>kE _ rfl Qv w
   |exact λw=>kF _ rfl Qv w):SeqJ P ops Q S late (.mv i r) (aL A L) w:=bS ho hd hQ hw hy h
theorem qr (hS : S w) (h : SeqJ P ops Q S late r (aL A ((d, v) :: L)) w) (ho : ops[i]? = some o := by rfl) (hd : o.dst = some d := by rfl) (hQ : ∀ c a w, Q (.panic c) (a.put (some d) v) w -> Q (.panic c) a w := by exact λ_ _ _ h => h) (hw : Region.wanted o (yielded ops (aL A L).tmps) = true := by first | exact cB rfl | exact eH rfl rfl rfl Qv) (hy : ∀ w, S w -> (execOp (aL A L).eval o).run P w = .ok (.value v) w := by first
   |exact λ_ H=>aR _ _ rfl OneK.out Qv Qh Yo rfl
   |exact λ_ H=>aV _ _ rfl ManyK.out Qv Qh Yo):SeqJ P ops Q S late (.rd i r) (aL A L) w:=WL ho hd hQ hw hS hy h
variable{f:Nat->Value}{ty:TypeId}
theorem kR(H:Cx w0 w l)(h:∀w',Cx w0 w' (bE ty w.heap.size n n f::l)->w'.heap.size=w.heap.size+1->LstI P ops Q rest (aL A ((d,.pointer (some ⟨w.heap.size,0,none⟩))::L)) w')(ho:o.op=.alloc ty:=by rfl)(Z:ZerK P ty n f:=by infer_instance)(hn:n<=maxLen:=by exact Xu rfl)(hd:o.dst=some d:=by rfl)(hw:Region.wanted o (yielded ops (aL A L).tmps)=true:=by exact cB rfl):LstI P ops Q (o::rest) (aL A L) w:=
 bJ hd hw (λ_ hK=>gQ w ty ho Z.out hn (λw' m k z=>hK _ _ (h w' (H.add k _ m (λj (e:j=_)=>Nat.le_of_eq e.symm)) z)))
variable{K:Act->World->Prop}{a:Act}
theorem aCy(w:World)(ty:TypeId)(ho:o.op=.alloc ty)(hz:∀w,(zeroValue ty).run P w=.ok v w)(h1:v.cells=#[v])(h:∀w',Vh ty w' w.heap.size 1 1 (λ_=>v)->Below w.heap.size w w'->w'.heap.size=w.heap.size+1->K (a.put o.dst (.pointer (some ⟨w.heap.size,0,none⟩))) w'):WpI P o a w K Q:=by
 refine⟨?_⟩;have hh:=h (w.alloc (.cells ((List.range 1).map λ_=>v).toArray ty)) (Vh.of_row _ 1 Yc (by show (w.heap.push _)[w.heap.size]?=_;rw[Array.getElem?_push_size])) (bK _ _) (dG _ _);unfold Oper.wp execOp;simp only[ho,Instr.alloc,newVar,newRow,newObj,Sem.run_bind,hz,Result.andThen_ok,h1];go_simp
 exact hh
theorem aMO(H:Cx w0 w l)(h:∀w',Cx w0 w' (bE ty w.heap.size 1 1 (λ_=>v)::l)->w'.heap.size=w.heap.size+1->LstI P ops Q rest (aL A ((d,.pointer (some ⟨w.heap.size,0,none⟩))::L)) w')(ho:o.op=.alloc ty:=by rfl)(Z:Zer1 P ty v:=by infer_instance)(hd:o.dst=some d:=by rfl)(hw:Region.wanted o (yielded ops (aL A L).tmps)=true:=by exact cB rfl):LstI P ops Q (o::rest) (aL A L) w:=
 bJ hd hw (λ_ hK=>aCy w ty ho Z.out Z.one (λw' m k z=>hK _ _ (h w' (H.add k _ m (λj (e:j=_)=>Nat.le_of_eq e.symm)) z)))
variable{x:Operand}
theorem lJ(H:Cx w0 w l)(h:∀w',Cx w0 w' (bE ty w.heap.size n n f::l)->w'.heap.size=w.heap.size+1->LstI P ops Q rest (aL A ((d,.pointer (some ⟨w.heap.size,0,none⟩))::L)) w')(ho:o.op=.box ty x:=by rfl)(hx:(aL A L).eval x=aP f 0 n:=by exact Qv)(hn:n<=maxLen:=by exact Xu rfl)(hd:o.dst=some d:=by rfl)(hw:Region.wanted o (yielded ops (aL A L).tmps)=true:=by exact cB rfl):LstI P ops Q (o::rest) (aL A L) w:=
 bJ hd hw (λ_ hK=>X9 w ty x ho hx hn (λw' m k z=>hK _ _ (h w' (H.add k _ m (λj (e:j=_)=>Nat.le_of_eq e.symm)) z)))
theorem aJQ(w:World)(ty:TypeId)(x:Operand)(ho:o.op=.box ty x)(hx:a.eval x=v)(h1:v.cells=#[v])(h:∀w',Vh ty w' w.heap.size 1 1 (λ_=>v)->Below w.heap.size w w'->w'.heap.size=w.heap.size+1->K (a.put o.dst (.pointer (some ⟨w.heap.size,0,none⟩))) w'):WpI P o a w K Q:=by
 refine⟨?_⟩;have hh:=h (w.alloc (.cells ((List.range 1).map λ_=>v).toArray ty)) (Vh.of_row _ 1 Yc (by show (w.heap.push _)[w.heap.size]?=_;rw[Array.getElem?_push_size])) (bK _ _) (dG _ _);unfold Oper.wp execOp;simp only[ho,hx,Instr.box,newVar,newRow,newObj,h1];go_simp
 exact hh
theorem aLx(H:Cx w0 w l)(h:∀w',Cx w0 w' (bE ty w.heap.size 1 1 (λ_=>v)::l)->w'.heap.size=w.heap.size+1->LstI P ops Q rest (aL A ((d,.pointer (some ⟨w.heap.size,0,none⟩))::L)) w')(ho:o.op=.box ty x:=by rfl)(hx:(aL A L).eval x=v:=by exact Qv)(h1:v.cells=#[v]:=by rfl)(hd:o.dst=some d:=by rfl)(hw:Region.wanted o (yielded ops (aL A L).tmps)=true:=by exact cB rfl):LstI P ops Q (o::rest) (aL A L) w:=
 bJ hd hw (λ_ hK=>aJQ w ty x ho hx h1 (λw' m k z=>hK _ _ (h w' (H.add k _ m (λj (e:j=_)=>Nat.le_of_eq e.symm)) z)))
variable{F:It->List It}{u:Value}{y:Operand}
theorem tY{b q N cap:Nat}{g g':Nat->Value}(H:AtK w0 w (bE t b N cap g) F)(e:∀j,j<N->eQ g q u j=g' j)(h:∀w',Cx w0 w' (F (bE t b N cap g'))->w'.heap.size=w.heap.size->LstI P ops Q rest (aL A L) w')(ho:o.op=.store ty x y:=by rfl)(T:OneK P ty:=by infer_instance)(hx:(aL A L).eval x=.pointer (some ⟨b,q,none⟩):=by exact Qv)(hy:(aL A L).eval y=u:=by exact Qv)(hn:q<N:=by omega)(h1:u.oneCell'=true:=by rfl)(h2:u.cells=#[u]:=by rfl)(hd:o.dst=none:=by rfl)(hw:Region.wanted o (yielded ops (aL A L).tmps)=true:=by exact cB rfl):LstI P ops Q (o::rest) (aL A L) w:=
 kV hw (λ_ hK=>kL w ty x y ho T.out hx hy H.o hn h1 h2 hd (λw' m k z=>hK _ (h w' (H.s k (m.congr e)) z)))
theorem jB{b q N cap:Nat}{g g':Nat->Value}(H:AtK w0 w (bE t b N cap g) F)(e:∀j,j<N->stP g q n f j=g' j)(h1:∀j,j<n->(f j).oneCell'=true)(h:∀w',Cx w0 w' (F (bE t b N cap g'))->w'.heap.size=w.heap.size->LstI P ops Q rest (aL A L) w')(ho:o.op=.store ty x y:=by rfl)(T:ManyK P ty n:=by infer_instance)(hx:(aL A L).eval x=.pointer (some ⟨b,q,none⟩):=by exact Qv)(hy:(aL A L).eval y=aP f 0 n:=by exact Qv)(hn:q+n<=N:=by omega)(hd:o.dst=none:=by rfl)(hw:Region.wanted o (yielded ops (aL A L).tmps)=true:=by exact cB rfl):LstI P ops Q (o::rest) (aL A L) w:=
 kV hw (λ_ hK=>aW w ty x y ho T.out hx hy H.o hn h1 hd (λw' m k z=>hK _ (h w' (H.s k (m.congr e)) z)))
variable{T:Array TypeId}
theorem aLy[E:EntK P n]{R:Ending->World->Prop}(hc:Calls P n #[] w R)(h:∀e w',R e w'->∃r,e=.returned r/\LstI P ops Q rest (aL A ((d,r)::L)) w')(ho:o.op=.call { callee:=.value (.func n),args:=#[],argTypes:=T }:=by rfl)(hd:o.dst=some d:=by rfl)(hw:Region.wanted o (yielded ops (aL A L).tmps)=true:=by exact cB rfl):LstI P ops Q (o::rest) (aL A L) w:=
 bJ hd hw (λ_ hK=>BU w n T ho (E.out _ _) hc (λe w' hr=>by obtain⟨r,h1,h2⟩:=h e w' hr;exact⟨r,h1,hK _ _ h2⟩))
theorem kX[E:EntK P n]{R:Ending->World->Prop}(hc:Calls P n #[u] w R)(h:∀e w',R e w'->∃r,e=.returned r/\LstI P ops Q rest (aL A ((d,r)::L)) w')(ho:o.op=.call { callee:=.value (.func n),args:=#[x],argTypes:=T }:=by rfl)(hx:(aL A L).eval x=u:=by exact Qv)(hd:o.dst=some d:=by rfl)(hw:Region.wanted o (yielded ops (aL A L).tmps)=true:=by exact cB rfl):LstI P ops Q (o::rest) (aL A L) w:=
 bJ hd hw (λ_ hK=>aX w n x T ho hx (E.out _ _) hc (λe w' hr=>by obtain⟨r,h1,h2⟩:=h e w' hr;exact⟨r,h1,hK _ _ h2⟩))
theorem gX[E:EntK P n]{u2:Value}{R:Ending->World->Prop}(hc:Calls P n #[u,u2] w R)(h:∀e w',R e w'->∃r,e=.returned r/\LstI P ops Q rest (aL A ((d,r)::L)) w')(ho:o.op=.call { callee:=.value (.func n),args:=#[x,y],argTypes:=T }:=by rfl)(hx:(aL A L).eval x=u:=by exact Qv)(hy:(aL A L).eval y=u2:=by exact Qv)(hd:o.dst=some d:=by rfl)(hw:Region.wanted o (yielded ops (aL A L).tmps)=true:=by exact cB rfl):LstI P ops Q (o::rest) (aL A L) w:=
 bJ hd hw (λ_ hK=>dL w n x y T ho hx hy (E.out _ _) hc (λe w' hr=>by obtain⟨r,h1,h2⟩:=h e w' hr;exact⟨r,h1,hK _ _ h2⟩))
theorem aLz{z:Operand}[E:EntK P n]{u2 u3:Value}{R:Ending->World->Prop}(hc:Calls P n #[u,u2,u3] w R)(h:∀e w',R e w'->∃r,e=.returned r/\LstI P ops Q rest (aL A ((d,r)::L)) w')(ho:o.op=.call { callee:=.value (.func n),args:=#[x,y,z],argTypes:=T }:=by rfl)(hx:(aL A L).eval x=u:=by exact Qv)(hy:(aL A L).eval y=u2:=by exact Qv)(hz:(aL A L).eval z=u3:=by exact Qv)(hd:o.dst=some d:=by rfl)(hw:Region.wanted o (yielded ops (aL A L).tmps)=true:=by exact cB rfl):LstI P ops Q (o::rest) (aL A L) w:=
 bJ hd hw (λ_ hK=>gT w n x y z T ho hx hy hz (E.out _ _) hc (λe w' hr=>by obtain⟨r,h1,h2⟩:=h e w' hr;exact⟨r,h1,hK _ _ h2⟩))
end
section
variable {P:Program} {Q:Exit->Act->World->Prop} {a:Act} {w:World} {y:Code} {J:Act->World->Prop} {id:Nat}
theorem fC(h:Q .ret a w):Nx P y Q .ret a w:=h
theorem aLC(h:Q .ret a w):Exit.then J Q .ret a w:=h
theorem yA(h:Q .ret a w):Exit.inBlock id Q .ret a w:=h
end
variable{A:Act}{L:List (Nat×Value)}{P:Program}{Q:Exit->Act->World->Prop}{c:Operand}{t:Bool}{x y:Code}
theorem iB(h1:t=true->CodI P x Q (aL A L) w)(h2:t=false->CodI P y Q (aL A L) w)(hc:(aL A L).eval c=.bool t:=by exact Qv):CodI P (.cond c x y) Q (aL A L) w:=oO hc h1 h2
theorem X0(ht:t=true)(h:CodI P x Q (aL A L) w)(hc:(aL A L).eval c=.bool t:=by exact Qv):CodI P (.cond c x y) Q (aL A L) w:=oO hc (λ_=>h) (λe=>by rw[ht] at e;cases e)
theorem aLA(ht:t=false)(h:CodI P y Q (aL A L) w)(hc:(aL A L).eval c=.bool t:=by exact Qv):CodI P (.cond c x y) Q (aL A L) w:=oO hc (λe=>by rw[ht] at e;cases e) (λ_=>h)
end Go.Proofs.YthimcecbgpamdaaGreatDoor
