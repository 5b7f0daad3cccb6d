import Derived.Test.YthimcecbgpamdaaGreatDoorNear131
import Derived.Deep.LoopGhost
import Derived.Test.YthimcecbgpamdaaGreatDoorNear167
import Derived.Laws.CopyOwn
namespace Go.Proofs.YthimcecbgpamdaaGreatDoor
open Go.RowKit
section
variable {P:Program} {Q:Exit->Act->World->Prop} {a:Act} {w:World}
variable{R:Ending->World->Prop}{args:Array Value}{c:Code}{fn:Func}
theorem bB{f:FuncId}(hf:P.funcs[f]?=some fn)(hb:fn.body=some c)(n:Nat)(hn:fn.ntmps=n)(hl:args.size<=n)(h:∀A:Act,A.tmps.size=n->A.defers=[]->(∀k v,args[k]?=some v->A.eval (.tmp k)=v)->CodI P c (bodyPost P fn R) A w):Calls P f args w R:=by
 refine calls_of_wp hf hb (h _ ?_ rfl ?_).out
 .show (args++Array.replicate (fn.ntmps-args.size) undef).size=n
  rw[Array.size_append,Array.size_replicate,hn];omega
 .intro k v hk;show (args++Array.replicate (fn.ntmps-args.size) undef).getD k undef=v
  have hlt:=(Array.getElem?_eq_some_iff.1 hk).1;rw[Array.getD_eq_getD_getElem?,Array.getElem?_append_left hlt,hk];rfl
def Nx(P:Program)(y:Code)(Q:Exit->Act->World->Prop):Exit->Act->World->Prop:=Exit.then (λa' w'=>CodI P y Q a' w') Q
variable{y:Code}
theorem aH{x:Code}(h:CodI P x (Nx P y Q) a w):CodI P (.seq x y) Q a w:=
 ⟨wp_seq (Code.wp_mono (λe a' w' q=>by
  cases e with
  |normal=>exact (show CodI P y Q a' w' from q).out
  |exit id=>exact q
  |goto l=>exact q
  |ret=>exact q
  |panic ch=>exact q
  |outgrown=>exact q) h.out)⟩
variable{id:Nat}
theorem aD{l:List Oper}(h:LstI P l.toArray (Nx P y Q) l a w):CodI P (.seq (.region id l.toArray false) y) Q a w:=aH (aJ h)
variable{ops:Array Oper}
theorem aC(h:CodI P y Q a w):LstI P ops (Nx P y Q) [] a w:=⟨wpList_nil h⟩
theorem aS(h:CodI P y Q a w):CodI P .skip (Nx P y Q) a w:=uV h
variable{S:World->Prop}
theorem eU(l:PlanJ)(lt:List Nat)(hm:P.follows .mixedOrders=true)(hb:(Region.noSelect ops&&lt.all (λj=>decide (j<ops.size))&&decide (l.len=ops.size)&&lI .any ops (jR lt) l (Array.replicate ops.size false))=true)(h:SeqJ P ops Q S (jR lt) l a w.drew):CodI P (.region id ops true) Q a w:=⟨aEu l lt hm hb h⟩
theorem fI{late:Nat->Bool}(h:CodI P y Q a w):SeqJ P ops (Nx P y Q) S late .fin a w:=aCb h
theorem aN(h:Q .ret a w):CodI P .ret Q a w:=⟨wp_ret h⟩
theorem bY(h:Q (.exit id) a w):CodI P (.exit id) Q a w:=⟨wp_exit h⟩
theorem aM(h:CodI P c (Exit.inBlock id Q) a w):CodI P (.block id c) Q a w:=⟨wp_block h.out⟩
theorem cO(I:Nat->Act->World->Prop)(n₀:Nat)(h₀:I n₀ a w)(round:∀n a w,I n a w->CodI P c (Exit.then (λa' w'=>∃n',n'<n/\I n' a' w') Q) a w):CodI P (.loop c) Q a w:=
 ⟨wp_loop_ghost I n₀ h₀ λn a w h=>(round n a w h).out⟩
theorem oO{c:Operand}{x:Code}{t:Bool}(hc:a.eval c=.bool t)(h1:t=true->CodI P x Q a w)(h2:t=false->CodI P y Q a w):CodI P (.cond c x y) Q a w:=by
 cases t
 .exact aQ hc (h2 rfl)
 .exact aT hc (h1 rfl)
variable{v:Value}
theorem aK(hd:a.defers=[])(hr:(results fn a.tmps).run P w=.ok v w)(h:R (.returned v) w):bodyPost P fn R .ret a w:=⟨hd,v,hr,h⟩
theorem jL{k:Nat}(h:a.eval (.tmp k)=v):a.tmps.getD k undef=v:=h
variable{cap:Nat}{g:Nat->Value}{t ty:TypeId}
theorem nP{b n N:Nat}(T:Many P ty n)(hm:Vh t w b N cap g)(hn:n<=N):(loadVar ty ⟨b,0,none⟩).run P w=.ok (aP g 0 n) w:=by
 have hl:(loadCells ⟨b,0,none⟩ n).run P w=.ok ((List.range n).map λj=>g (0+j)).toArray w:=
  run_loadCells w ⟨b,0,none⟩ n (λj=>g (0+j)) (λj hj=>by rw[add_at,Nat.zero_add];exact hm.cell Yo)
 simp only[loadVar,Sem.run_bind,T.agg,T.size,hl,Result.andThen_ok,if_true];rfl
variable{p:Nat}
theorem bL(h:fn.results=#[.tmp p])(hv:a.eval (.tmp p)=v):(results fn a.tmps).run P w=.ok v w:=by
 have e:=jL hv;simp only[Array.getD_eq_getD_getElem?] at e;simp[results,h,e]
theorem pF{q:Nat}{u:Value}(h:fn.results=#[.tmp p,.tmp q])(hu:a.eval (.tmp p)=u)(hv:a.eval (.tmp q)=v):(results fn a.tmps).run P w=.ok (.tuple #[u,v]) w:=by
 have e:=jL hu;have e2:=jL hv;simp only[Array.getD_eq_getD_getElem?] at e e2;simp[results,h,e,e2]
theorem qV{b n N:Nat}(h:fn.results=#[.cell p ty])(hv:a.eval (.tmp p)=.pointer (some ⟨b,0,none⟩))(T:Many P ty n)(hm:Vh t w b N cap g)(hn:n<=N):(results fn a.tmps).run P w=.ok (aP g 0 n) w:=by
 have e:=jL hv;simp only[Array.getD_eq_getD_getElem?] at e;simp[results,h,e,asAddr,nP T hm hn]
theorem jK{p':Nat}{ty':TypeId}{b b' n n' N N' cap':Nat}{t':TypeId}{g':Nat->Value}(h:fn.results=#[.cell p ty,.cell p' ty'])(hv:a.eval (.tmp p)=.pointer (some ⟨b,0,none⟩))(hv':a.eval (.tmp p')=.pointer (some ⟨b',0,none⟩))(T:Many P ty n)(T':Many P ty' n')(hm:Vh t w b N cap g)(hn:n<=N)(hm':Vh t' w b' N' cap' g')(hn':n'<=N'):(results fn a.tmps).run P w=.ok (.tuple #[aP g 0 n,aP g' 0 n']) w:=by
 have e:=jL hv;have e2:=jL hv';simp only[Array.getD_eq_getD_getElem?] at e e2;simp[results,h,e,e2,asAddr,nP T hm hn,nP T' hm' hn']
theorem nO{p':Nat}{b n N:Nat}(h:fn.results=#[.cell p ty,.tmp p'])(hv:a.eval (.tmp p)=.pointer (some ⟨b,0,none⟩))(hv':a.eval (.tmp p')=v)(T:Many P ty n)(hm:Vh t w b N cap g)(hn:n<=N):(results fn a.tmps).run P w=.ok (.tuple #[aP g 0 n,v]) w:=by
 have e:=jL hv;have e2:=jL hv';simp only[Array.getD_eq_getD_getElem?] at e e2;simp[results,h,e,e2,asAddr,nP T hm hn]
end
section
variable {P:Program} {Q:Exit->Act->World->Prop} {J:Act->World->Prop} {a:Act} {w:World} {ops:Array Oper} {x y:Code} {id:Nat}
theorem iU(h:CodI P y Q a w):CodI P .skip (Exit.inBlock id (Nx P y Q)) a w:=uV h
theorem fG(h:CodI P y Q a w):LstI P ops (Exit.inBlock id (Nx P y Q)) [] a w:=⟨wpList_nil h⟩
theorem vN{S:World->Prop}{late:Nat->Bool}(h:CodI P y Q a w):SeqJ P ops (Exit.inBlock id (Nx P y Q)) S late .fin a w:=aCb h
theorem bD(h:J a w):LstI P ops (Exit.then J Q) [] a w:=⟨wpList_nil h⟩
theorem eY(h:CodI P y Q a w):Nx P x (Exit.then J (Exit.inBlock id (Nx P y Q))) (.exit id) a w:=by
 show (if id=id then _ else _)
 rw[if_pos rfl];exact h
end
variable{P:Program}{Q:Exit->Act->World->Prop}{a:Act}{id:Nat}{w:World}
theorem aMl{x y:Code}(h:CodI P y Q a w):Nx P x (Exit.inBlock id (Nx P y Q)) (.exit id) a w:=by
 show (if id=id then _ else _)
 rw[if_pos rfl];exact h
theorem QV{J:Act->World->Prop}{x y:Code}{id2:Nat}(h:CodI P y Q a w):Nx P x (Exit.then J (Exit.inBlock id (Exit.inBlock id2 (Nx P y Q)))) (.exit id) a w:=by
 show (if id=id then _ else _)
 rw[if_pos rfl];exact h
def iV(x:Int):Value:=.int .i64 x
def kW(t:Tn)(j:Nat):Value:=iV (if j=0 then t.Dt else if j=1 then t.Q else if j=2 then t.R else t.G)
def dK(s:St)(j:Nat):Value:=if j=0 then iV s.X else if j=1 then iV s.V else if j=2 then iV s.P00 else if j=3 then iV s.P01 else if j=4 then iV s.P11 else if j=5 then .bool s.B else iV s.M
def dF(r:Rl)(j:Nat):Value:=if j<4 then .bool (r.I j) else if j<8 then iV (r.M (j-4)) else iV (r.J (j-8))
def ndF(n:Nd)(v:Value)(j:Nat):Value:=
 if j<2 then iV (if j=0 then n.id else n.fr)
 else if j<6 then kW n.tn (j-2)
 else if j<27 then dK (n.ax ((j-6)/7)) ((j-6)%7)
 else if j<39 then dF n.rl (j-27)
 else if j<51 then iV (n.di ((j-39)/3) ((j-39)%3))
 else if j<55 then iV (n.he (j-51))
 else if j<67 then iV (n.ag ((j-55)/3) ((j-55)%3))
 else if j<70 then iV (n.us (j-67))
 else if j<71 then iV n.dg
 else if j<72 then iV n.vX
 else if j<73 then .bool n.vS
 else v
def lS(n:Nd)(v:Value):Value:=aP (ndF n v) 0 74
def NdAt(w:World)(b:Nat)(n:Nd)(v:Value):Prop:=Vh 43 w b 74 74 (ndF n v)
theorem bG:Many Tryz.prog 43 74:=Many.of _ Tryz.underlying43 rfl Yl
theorem dZ:Many Tryz.prog 79 4:=Many.of _ Tryz.underlying79 rfl Yl
theorem lV:Many Tryz.prog 37 3:=Many.of _ Tryz.underlying37 rfl Yl
theorem sJ:Many Tryz.prog 34 4:=Many.of _ Tryz.underlying34 rfl Yl
theorem sZ:Many Tryz.prog 38 12:=Many.of _ Tryz.underlying38 rfl Yl
theorem iZ:OneC Tryz.prog 3:=⟨λw=>by go_simp,λw=>Yh⟩
theorem tX:OneC Tryz.prog 4:=⟨λw=>by go_simp,λw=>Yh⟩
theorem iT:OneC Tryz.prog 72:=⟨λw=>by go_simp,λw=>Yh⟩
theorem aGq:OneC Tryz.prog 39:=⟨λw=>by go_simp,λw=>Yh⟩
section
variable {w w':World} {b:Nat} {n:Nd} {v:Value}
theorem NdAt.below(h:NdAt w b n v)(k:Below w.heap.size w w'):NdAt w' b n v:=Vh.below h k
theorem NdAt.kept{z:Nat}(h:NdAt w b n v)(k:Kept z w w')(hz:b≠z):NdAt w' b n v:=Vh.kept h k hz
theorem NdAt.lt(h:NdAt w b n v):b<w.heap.size:=Vh.lt h
theorem OG(n:Nd)(v u:Value):∀j,j<74->eQ (ndF n v) 73 u j=ndF n u j:=by
 intro j hj;by_cases e:j=73
 .subst e;rfl
 .rw[gP _ _ e];unfold ndF;by_cases h1:j<2
  .rw[if_pos h1,if_pos h1]
  .rw[if_neg h1,if_neg h1];by_cases h2:j<6
   .rw[if_pos h2,if_pos h2]
   .rw[if_neg h2,if_neg h2];by_cases h3:j<27
    .rw[if_pos h3,if_pos h3]
    .rw[if_neg h3,if_neg h3];by_cases h4:j<39
     .rw[if_pos h4,if_pos h4]
     .rw[if_neg h4,if_neg h4];by_cases h5:j<51
      .rw[if_pos h5,if_pos h5]
      .rw[if_neg h5,if_neg h5];by_cases h6:j<55
       .rw[if_pos h6,if_pos h6]
       .rw[if_neg h6,if_neg h6];by_cases h7:j<67
        .rw[if_pos h7,if_pos h7]
        .rw[if_neg h7,if_neg h7];by_cases h8:j<70
         .rw[if_pos h8,if_pos h8]
         .rw[if_neg h8,if_neg h8];by_cases h9:j<71
          .rw[if_pos h9,if_pos h9]
          .rw[if_neg h9,if_neg h9];by_cases h10:j<72
           .rw[if_pos h10,if_pos h10]
           .rw[if_neg h10,if_neg h10,if_pos Yo,if_pos Yo]
theorem dA(n:Nd)(a:Option Addr)(l c:Nat):∀j,j<74->(ndF n (.slice a l c) j).oneCell'=true:=by
 intro j _;unfold ndF kW dK dF iV
 repeat' split
 all_goals rfl
end
def bV(x:Nat):Value:=.int .u8 (x:Nat)
def bF(g:Nat->Nat)(i:Nat):Value:=bV (g i)
theorem AY:(Tryz.prog.info? 5).map (λi=>(i.zero,i.size,i.bytes))=some (some (.int .u8 0),1,1):=Yl
def Sr(w:World)(ao:Option Addr)(len cap:Nat)(f:Nat->Value):Prop:=
 (ao=none/\len=0/\cap=0)\/∃x,ao=some x/\∀i,i<len->w.cell? (x.add i)=some (f i)
section
variable {w w':World} {ao:Option Addr} {len cap:Nat} {f:Nat->Value}
theorem Sr.rd(h:Sr w ao len cap f):Rd w ao len f:=by
 intro hl;rcases h with ⟨_,h0,_⟩|⟨x,rfl,hc⟩
 .omega
 .obtain⟨b,o,spot⟩:=x;have hs:spot=none:=by simpa [Addr.add] using World.cell?_spot (hc 0 hl)
  subst hs;exact⟨b,o,rfl,λi hi=>by have:=hc i hi;rw[Addr.add_lit] at this;exact this⟩
theorem Sr.below(h:Sr w ao len cap f)(k:Below w.heap.size w w'):Sr w' ao len cap f:=by
 rcases h with h|⟨x,rfl,hc⟩
 .exact Or.inl h
 .exact Or.inr ⟨x,rfl,λi hi=>aU (hc i hi) k⟩
theorem Sr.less{k:Nat}(h:Sr w ao len cap f)(hk:k<=len):Sr w ao k cap f:=by
 rcases h with ⟨h1,h2,h3⟩|⟨x,rfl,hc⟩
 .exact Or.inl ⟨h1,Yo,h3⟩
 .exact Or.inr ⟨x,rfl,λi hi=>hc i Yo⟩
variable{g:Nat->Value}
theorem Sr.congr(h:Sr w ao len cap f)(e:∀i,i<len->f i=g i):Sr w ao len cap g:=by
 rcases h with h|⟨x,rfl,hc⟩
 .exact Or.inl h
 .exact Or.inr ⟨x,rfl,λi hi=>by rw[<-e i hi];exact hc i hi⟩
theorem kK{t:TypeId}{base n:Nat}{v:Value}(h:w.ownsRow base t 1 v n (rowV g n)):∃ao cap,v=.slice ao n cap/\Sr w ao n cap g/\n<=cap:=by
 have hh:=h;rcases h.2 with ⟨rfl,rfl⟩|⟨r,c,cur,rfl,_,_,hc,_⟩
 .exact⟨none,0,rfl,Or.inl ⟨rfl,rfl,rfl⟩,Xr _⟩
 .refine⟨_,c,rfl,Or.inr ⟨_,rfl,λi hi=>?_⟩,hc⟩;exact hh.cells (g:=r) rfl i (g i) (iE g hi)
end
variable{B n:Nat}{t:TypeId}{v:Value}{xs:List Value}
theorem Q5{w':World}(h:w.ownsRow B t 1 v n xs)(hg:w.grownBy w' v.ownBlock){w0:World}(k:Below B w0 w)(hB:B<=w.heap.size):Below B w0 w':=
 k.trans ⟨hg.os,hg.tape,hg.output,hg.size,λj hj=>hg.block j Yo (λe=>by have:=(h.lt j e.symm).1;omega)⟩
theorem vQ{w':World}(h:w.ownsRow B t 1 v n xs)(k:Below w.heap.size w w'):w'.ownsRow B t 1 v n xs:=by
 refine⟨h.1,?_⟩;rcases h.2 with hn|⟨g,cap,cur,rfl,hb,hgg,rest⟩
 .exact .inl hn
 .exact .inr ⟨g,cap,cur,rfl,hb,(k.block g (lt_of_block hgg)).trans hgg,rest⟩
variable{K:Act->World->Prop}{o:Oper}
theorem VM(w:World)(s x:Operand)(ho:o.op=.call { callee:=.builtin .append,args:=#[s,x],argTypes:=#[65,65] })(B:Nat)(hB:B<=w.heap.size)(v:Value)(n:Nat)(xs:List Value)(hs:a.eval s=v)(hown:w.ownsRow B 5 1 v n xs)(vo:Option Addr)(lv cv:Nat)(f:Nat->Value)(hx:a.eval x=.slice vo lv cv)(har:Sr w vo lv cv f)(h1:∀i,i<lv->(f i).oneCell'=true)(hl:n+lv<=140737488355328)(h:∀v' w',w'.ownsRow B 5 1 v' (n+lv) (xs++rowV f lv)->Below B w w'->K (a.put o.dst v') w'):o.wp Tryz.prog a w K Q:=by
 obtain⟨i0,hi,hz0,hz1,hz2⟩:=info_parts AY;rcases har with ⟨rfl,rfl,rfl⟩|⟨y,rfl,hc⟩
 .have hrun:=run_append_owned_none (P:=Tryz.prog) (w:=w) B 65 o.type 5 i0 1 Tryz.underlying65 hi v n xs hown;have hh:=h v w (by simpa [rowV] using hown) (Below.refl _ _);unfold Oper.wp execOp;simp only[ho,resolve,invoke,builtin,Sem.run_bind,Sem.run_pure,Result.andThen_ok,List.map_toArray,List.map_cons,List.map_nil,hs,hx,hrun];exact hh
 .refine wp_append_own (P:=Tryz.prog) w s x 65 ho B 5 i0 (.int .u8 0) 1 1 Tryz.underlying65 hi hz0 hz1 hz2 rfl Yc v n xs hs hown y lv cv (rowV f lv) hx (vY f lv) ?_ (mV f lv h1) Ym Yo hB ?_
  .intro j u hj;rcases Nat.lt_or_ge j lv with h2|h2
   .rw[iE f h2] at hj;cases hj;exact hc j h2
   .rw[iP f h2] at hj;cases hj
  .intro v' w2 ho2 hgr hnil;exact h v' w2 ho2 (Q5 hown hgr (Below.refl _ _) hB)
variable{ops:Array Oper}{rest:List Oper}
theorem sK(w:World)(hgd:o.guard=none)(s x:Operand)(ho:o.op=.call { callee:=.builtin .append,args:=#[s,x],argTypes:=#[65,65] })(B:Nat)(hB:B<=w.heap.size)(v:Value)(n:Nat)(xs:List Value)(hs:a.eval s=v)(hown:w.ownsRow B 5 1 v n xs)(vo:Option Addr)(lv cv:Nat)(f:Nat->Value)(hx:a.eval x=.slice vo lv cv)(har:Sr w vo lv cv f)(h1:∀i,i<lv->(f i).oneCell'=true)(hl:n+lv<=140737488355328)(h:∀v' w',w'.ownsRow B 5 1 v' (n+lv) (xs++rowV f lv)->Below B w w'->wpList Tryz.prog ops Q rest (a.put o.dst v') w'):wpList Tryz.prog ops Q (o::rest) a w:=
 wpList_plain hgd λ_ hK=>VM w s x ho B hB v n xs hs hown vo lv cv f hx har h1 hl λv' w' h2 h3=>hK _ _ (h v' w' h2 h3)
theorem aFY(w:World)(l c:Operand)(ho:o.op=.makeSlice 65 l c)(n m:Nat)(hl:a.eval l=.int .i64 (n:Int))(hc:a.eval c=.int .i64 (m:Int))(hnm:n<=m)(hn:m<=281474976710656)(h:∀w',w'.heap.size=w.heap.size+1->Vh 5 w' w.heap.size n m (bF (λ_=>0))->Below w.heap.size w w'->K (a.put o.dst (.slice (some ⟨w.heap.size,0,none⟩) n m)) w'):o.wp Tryz.prog a w K Q:=by
 obtain⟨i0,hi,hz0,hz1,hz2⟩:=info_parts AY;have hrun:=run_make (P:=Tryz.prog) w 65 5 i0 (.int .u8 0) Tryz.underlying65 hi hz0 .i64 .i64 n m Yo Yo (by rw[hz2];omega) Yo;rw[hz1] at hrun;simp only[Int.toNat_natCast,Nat.mul_one] at hrun;have hh:=h _ (dG _ _) ((Vh.made w 5 (.int .u8 0) m Ym).less hnm) (bK _ _);unfold Oper.wp execOp;simp only[ho,hl,hc,hrun,Sem.run_bind,Sem.run_pure,Result.andThen_ok];exact hh
theorem wpList_makeC(w:World)(hgd:o.guard=none)(l c:Operand)(ho:o.op=.makeSlice 65 l c)(n m:Nat)(hl:a.eval l=.int .i64 (n:Int))(hc:a.eval c=.int .i64 (m:Int))(hnm:n<=m)(hn:m<=281474976710656)(h:∀w',w'.heap.size=w.heap.size+1->Vh 5 w' w.heap.size n m (bF (λ_=>0))->Below w.heap.size w w'->wpList Tryz.prog ops Q rest (a.put o.dst (.slice (some ⟨w.heap.size,0,none⟩) n m)) w'):wpList Tryz.prog ops Q (o::rest) a w:=
 wpList_plain hgd λ_ hK=>aFY w l c ho n m hl hc hnm hn λw' h1 h2 h3=>hK _ _ (h w' h1 h2 h3)
theorem aFV(w:World)(d s:Operand)(ho:o.op=.call { callee:=.builtin .copy,args:=#[d,s],argTypes:=#[65,65] })(b n cap:Nat)(f:Nat->Value)(hd:a.eval d=.slice (some ⟨b,0,none⟩) n cap)(hv:Vh 5 w b n cap f)(vo:Option Addr)(cv:Nat)(g:Nat->Value)(hs:a.eval s=.slice vo n cv)(hr:Rd w vo n g)(h1:∀i,(g i).oneCell'=true)(h:∀w',Vh 5 w' b n cap g->Kept b w w'->K (a.put o.dst (goInt n)) w'):o.wp Tryz.prog a w K Q:=by
 have hsz:(Tryz.prog.info? 5).map (·.size)=some 1:=by kernel_rfl
 rcases Nat.eq_zero_or_pos n with h0|h0
 .subst h0;have hrun:=run_copy_none (P:=Tryz.prog) w 65 65 o.type 5 (some ⟨b,0,none⟩) vo 0 cap 0 cv Tryz.underlying65 hsz (by rfl);have hh:=h w (hv.congr (λi hi=>absurd hi Yo)) (JJ _ _);unfold Oper.wp execOp;simp only[ho,resolve,invoke,builtin,Sem.run_bind,Sem.run_pure,Result.andThen_ok,List.map_toArray,List.map_cons,List.map_nil,hd,hs,hrun];exact hh
 .obtain⟨ad,rfl,hsrc⟩:=hr.list h0;obtain⟨cur,hb,hn,hfit,hmax,_⟩:=hv;have hrun:=run_copy_row (P:=Tryz.prog) w 65 65 o.type 5 b 0 n cap ad n cv cur 5 (rowV g n) Tryz.underlying65 hsz hb (by rw[gY];exact (Nat.min_self n).symm) hsrc (by rw[gY];omega) (mV g n (λi _=>h1 i));rw[gY] at hrun;have hh:=h (w.setRow b (cur.toList.take 0++rowV g n++cur.toList.drop (0+n)).toArray)
   ⟨_,setRow_heap w b cur _ 5 (0,0) hb,by simp[gY];omega,hfit,hmax,λi hi=>by
    simp only[List.take_zero,List.nil_append,List.getElem?_toArray];rw[List.getElem?_append_left (by rw[gY];exact hi),iE g hi]⟩
   ⟨rfl,rfl,rfl,by simp,λk _ hk=>setRow_other w b k _ hk⟩
  unfold Oper.wp execOp;simp only[ho,resolve,invoke,builtin,Sem.run_bind,Sem.run_pure,Result.andThen_ok,List.map_toArray,List.map_cons,List.map_nil,hd,hs,hrun];exact hh
theorem wpList_copyB(w:World)(hgd:o.guard=none)(d s:Operand)(ho:o.op=.call { callee:=.builtin .copy,args:=#[d,s],argTypes:=#[65,65] })(b n cap:Nat)(f:Nat->Value)(hd:a.eval d=.slice (some ⟨b,0,none⟩) n cap)(hv:Vh 5 w b n cap f)(vo:Option Addr)(cv:Nat)(g:Nat->Value)(hs:a.eval s=.slice vo n cv)(hr:Rd w vo n g)(h1:∀i,(g i).oneCell'=true)(h:∀w',Vh 5 w' b n cap g->Kept b w w'->wpList Tryz.prog ops Q rest (a.put o.dst (goInt n)) w'):wpList Tryz.prog ops Q (o::rest) a w:=
 wpList_plain hgd λ_ hK=>aFV w d s ho b n cap f hd hv vo cv g hs hr h1 λw' h2 h3=>hK _ _ (h w' h2 h3)
theorem bF_one(g:Nat->Nat)(i:Nat):(bF g i).oneCell'=true:=rfl
end Go.Proofs.YthimcecbgpamdaaGreatDoor
