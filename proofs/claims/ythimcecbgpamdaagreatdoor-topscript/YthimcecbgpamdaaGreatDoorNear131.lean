import Derived.Test.YthimcecbgpamdaaGreatDoorNear107
import Derived.Test.YthimcecbgpamdaaGreatDoorNear199
namespace Go.Proofs.YthimcecbgpamdaaGreatDoor
open Go.RowKit
def aP(g:Nat->Value)(o n:Nat):Value:=.agg ((List.range n).map λj=>g (o+j)).toArray
def stP(g:Nat->Value)(o n:Nat)(f:Nat->Value):Nat->Value:=λj=>if o<=j/\j<o+n then f (j-o) else g j
variable{n:Nat}
theorem mF(g:Nat->Value){o j:Nat}(f:Nat->Value)(h:j<n):stP g o n f (o+j)=f j:=by
 unfold stP;rw[if_pos Yo,Nat.add_sub_cancel_left]
theorem mG(g:Nat->Value){o j:Nat}(f:Nat->Value)(h:j<o\/o+n<=j):stP g o n f j=g j:=by
 unfold stP;rw[if_neg Yo]
theorem add_at(b o i:Nat):(⟨b,o,none⟩:Addr).add i=⟨b,o+i,none⟩:=by unfold Addr.add;split<;>simp_all
section
variable {P:Program}
theorem qX(b o:Nat)(t:TypeId)(N cap:Nat)(f:Nat->Value):∀(n i:Nat) (g:Nat->Value) (w:World),Vh t w b N cap g->o+i+n<=N->(∀j,j<n->(f (i+j)).oneCell'=true)->∃w',(storeCells ⟨b,o,none⟩ ((List.range n).map λj=>f (i+j)) i).run P w=.ok () w'/\Vh t w' b N cap (stP g (o+i) n (λj=>f (i+j)))/\Kept b w w'/\w'.heap.size=w.heap.size
 |0,i,g,w,h,_,_=>⟨w,rfl,h.congr λj _=>(mG _ _ Yo).symm,⟨rfl,rfl,rfl,Xr _,λ_ _ _=>rfl⟩,rfl⟩
 |n+1,i,g,w,h,hN,h1=>by
  have hst:(store ((⟨b,o,none⟩:Addr).add i) (f i)).run P w=.ok () (w.setCell ⟨b,o+i,none⟩ (f i)):=by
   rw[add_at,run_store P w _ _ _ (by simpa using h1 0 Yo),h.cell (show o+i<N by omega)];simp[h.free]
  have hs:=h.set (o+i) (f i);obtain⟨w',e,hv,k,z⟩:=qX b o t N cap f n (i+1) _ _ hs Yo (λj hj=>by have:=h1 (j+1) Yo;rwa [show i+(j+1)=i+1+j by omega] at this);have el:((List.range (n+1)).map λj=>f (i+j))=f i::(List.range n).map λj=>f (i+1+j):=by
   rw[List.range_succ_eq_map,List.map_cons,List.map_map]
   congr 1
   apply List.map_congr_left;intro j _;show f (i+(j+1))=_
   rw[show i+(j+1)=i+1+j by omega]
  refine⟨w',?_,hv.congr λj hj=>?_,⟨k.os,k.tape,k.output,?_,λm hm hb=>?_⟩,?_⟩
  .rw[el];simp only[storeCells,Sem.run_bind,hst,Result.andThen_ok,e]
  .by_cases c:o+i<=j/\j<o+i+(n+1)
   .by_cases d:j=o+i
    .subst d;rw[mG _ _ Yo,kS];have:=mF g (o:=o+i) (n:=n+1) (j:=0) (λj=>f (i+j)) Yo
     simpa using this.symm
    .obtain⟨m,rfl⟩:∃m,j=o+(i+1)+m:=⟨j-(o+(i+1)),Yo⟩;rw[mF _ _ Yo];have:=mF g (o:=o+i) (n:=n+1) (j:=m+1) (λj=>f (i+j)) Yo;rw[show o+(i+1)+m=o+i+(m+1) by omega,this,show i+(m+1)=i+1+m by omega]
   .rw[mG _ _ Yo,mG _ _ Yo,gP _ _ Yo]
  .have:(w.setCell ⟨b,o+i,none⟩ (f i)).heap.size=w.heap.size:=by simp[World.setCell]
   omega
  .rw[k.block m (by simpa [World.setCell] using hm) hb];simp[World.setCell,Array.getElem?_modify,Ne.symm hb]
  .rw[z];simp[World.setCell]
structure Many (P:Program) (ty:TypeId) (n:Nat):Prop where
 agg:∀w,(isAgg ty).run P w=.ok true w
 size:∀w,(sizeOf ty).run P w=.ok n w
theorem Many.of{ty:TypeId}(d:TypeDesc)(hu:P.underlying ty=some d)(hd:(match d with|.struct _|.array _ _=>true|_=>false)=true)(hi:(P.info? ty).map (·.size)=some n):Many P ty n:=by
 cases hq:P.info? ty with
 |none=>simp[hq] at hi
 |some i=>
  have hs:i.size=n:=by simpa [hq] using hi
  refine⟨λw=>?_,λw=>by simp[sizeOf,typeInfo,hq,hs]⟩;unfold isAgg;rw[Sem.run_bind,run_underlying hu w]
  cases d<;>simp_all
variable{f:Operand->Value}{g:Nat->Value}{o:Oper}{t:TypeId}
theorem aV(ty:TypeId)(x:Operand)(ho:o.op=.load ty x){b k N cap:Nat}(T:Many P ty n)(hx:f x=.pointer (some ⟨b,k,none⟩)){w:World}(hm:Vh t w b N cap g)(hn:k+n<=N):(execOp f o).run P w=.ok (.value (aP g k n)) w:=by
 have hl:(loadCells ⟨b,k,none⟩ n).run P w=.ok ((List.range n).map λj=>g (k+j)).toArray w:=
  run_loadCells w ⟨b,k,none⟩ n (λj=>g (k+j)) (λj hj=>by rw[add_at];exact hm.cell Yo)
 unfold execOp;simp only[ho,hx,Instr.loadAt,Instr.sureAddr,loadVar,Sem.run_bind,Sem.run_pure,Result.andThen_ok,T.agg,T.size,hl,if_true];rfl
variable{Q:Exit->Act->World->Prop}
theorem aW{a:Act}{K:Act->World->Prop}(w:World)(ty:TypeId)(x y:Operand)(ho:o.op=.store ty x y){b k N cap:Nat}{f:Nat->Value}(T:Many P ty n)(hx:a.eval x=.pointer (some ⟨b,k,none⟩))(hy:a.eval y=aP f 0 n)(hm:Vh t w b N cap g)(hn:k+n<=N)(h1:∀j,j<n->(f j).oneCell'=true)(hd:o.dst=none)(h:∀w',Vh t w' b N cap (stP g k n f)->Kept b w w'->w'.heap.size=w.heap.size->K a w'):WpI P o a w K Q:=by
 refine⟨?_⟩;obtain⟨w',e,hv,kk,z⟩:=qX (P:=P) b k t N cap f n 0 g w hm hn (λj hj=>by simpa using h1 j hj);have hh:=h w' (by simpa using hv) kk z;have st:(storeVar ty ⟨b,k,none⟩ (aP f 0 n)).run P w=.ok () w':=by
  unfold storeVar aP;simp only[Value.cells,Sem.run_bind,T.size,Result.andThen_ok];simp only[List.size_toArray,List.length_map,List.length_range,ne_eq,not_true_eq_false,if_false]
  simpa using e
 unfold Oper.wp execOp;simp only[ho,hx,hy,Instr.storeAt,Instr.sureAddr,Sem.run_bind,Sem.run_pure,Result.andThen_ok,st];show K (a.put o.dst undef) w'
 rw[hd];exact hh
end
end Go.Proofs.YthimcecbgpamdaaGreatDoor
namespace Go.Proofs.YthimcecbgpamdaaGreatDoor
open Go
section
variable {P:Program} {ops:Array Oper} {Q:Exit->Act->World->Prop} {a:Act} {w:World} {rest:List Oper} {o:Oper}
structure LstI (P:Program) (ops:Array Oper) (Q:Exit->Act->World->Prop) (l:List Oper) (a:Act) (w:World):Prop where
 out:wpList P ops Q l a w
variable{id:Nat}{l:List Oper}
theorem aEv(h:LstI P l.toArray Q l a w):(Code.region id l.toArray false).wp P Q a w:=wp_region_lit h.out
theorem DJ(h:Q .normal a w):LstI P ops Q [] a w:=⟨wpList_nil h⟩
theorem aNv{v:Value}(hw:Region.wanted o (yielded ops a.tmps)=true)(hy:(execOp a.eval o).run P w=.ok (.value v) w)(h:LstI P ops Q rest (a.put o.dst v) w):LstI P ops Q (o::rest) a w:=
 ⟨wpList_step λK hK=>by
  rw[if_pos hw];unfold Oper.wp;rw[hy];exact hK _ _ h.out⟩
theorem aKW(hw:Region.wanted o (yielded ops a.tmps)=false)(h:LstI P ops Q rest (a.put o.dst undef) w):LstI P ops Q (o::rest) a w:=⟨wpList_skip hw h.out⟩
theorem aKV(hw:Region.wanted o (yielded ops a.tmps)=true)(h:∀K:Act->World->Prop,(∀a' w',LstI P ops Q rest a' w'->K a' w')->WpI P o a w K Q):LstI P ops Q (o::rest) a w:=
 ⟨wpList_step λK hK=>by
  rw[if_pos hw];exact (h K (λa' w' h1=>hK a' w' h1.out)).out⟩
structure CodI (P:Program) (c:Code) (Q:Exit->Act->World->Prop) (a:Act) (w:World):Prop where
 out:c.wp P Q a w
variable{x y:Code}
theorem zI(R:Act->World->Prop)(h:CodI P x (λe a' w'=>e=.normal/\R a' w') a w)(k:∀a' w',R a' w'->CodI P y Q a' w'):CodI P (.seq x y) Q a w:=
 ⟨wp_seq (Code.wp_mono (λe a' w' ⟨he,hr⟩=>by rw[he];exact (k a' w' hr).out) h.out)⟩
theorem aJ(h:LstI P l.toArray Q l a w):CodI P (.region id l.toArray false) Q a w:=⟨aEv h⟩
variable{c:Operand}
theorem aT(hc:a.eval c=.bool true)(h:CodI P x Q a w):CodI P (.cond c x y) Q a w:=⟨wp_cond_true hc h.out⟩
theorem aQ(hc:a.eval c=.bool false)(h:CodI P y Q a w):CodI P (.cond c x y) Q a w:=⟨wp_cond_false hc h.out⟩
theorem uV(h:Q .normal a w):CodI P .skip Q a w:=⟨wp_skip h⟩
end
structure Stay (ks:List Nat) (a b:Act):Prop where
 ev:∀k,k∈ks->b.eval (.tmp k)=a.eval (.tmp k)
 size:b.tmps.size=a.tmps.size
 defers:b.defers=a.defers
theorem Stay.refl(ks:List Nat)(a:Act):Stay ks a a:=⟨λ_ _=>rfl,rfl,rfl⟩
variable{a:Act}{ks:List Nat}
theorem Stay.trans{b c:Act}(h:Stay ks a b)(k:Stay ks b c):Stay ks a c:=⟨λi hi=>(k.ev i hi).trans (h.ev i hi),k.size.trans h.size,k.defers.trans h.defers⟩
theorem Stay.put{b:Act}(h:Stay ks a b)(d:Nat)(v:Value)(hd:ks.contains d=false):Stay ks a (b.put (some d) v):=
 ⟨λi hi=>(vD _ _ (λe=>by subst e;rw[List.contains_eq_mem,decide_eq_false_iff_not] at hd;exact hd hi)).trans (h.ev i hi),(QG ..).trans h.size,h.defers⟩
inductive PlanJ where
 |fin
 |rd (i:Nat) (r:PlanJ)
 |mv (i:Nat) (r:PlanJ)
 |go (i:Nat) (r:PlanJ)
 |two (i j:Nat) (ri rj:PlanJ)
 |three (i j k:Nat) (ri rj rk:PlanJ)
def PlanJ.len:PlanJ->Nat
 |.fin=>0
 |.rd _ r=>r.len+1
 |.mv _ r=>r.len+1
 |.go _ r=>r.len+1
 |.two _ _ r _=>r.len+1
 |.three _ _ _ r _ _=>r.len+1
section
variable {P:Program} {ops:Array Oper} {Q:Exit->Act->World->Prop} {md:Region.Mode} {S:World->Prop} {late:Nat->Bool}
def xV(P:Program)(md:Region.Mode)(ops:Array Oper)(Q:Exit->Act->World->Prop)(S:World->Prop)(late:Nat->Bool):Nat->Array Bool->Act->World->Prop
 |0,listed,a,w=>Region.ready md ops listed=[]/\Q .normal a w
 |fuel+1,listed,a,w=>
  (Region.ready md ops listed=[]->Q .normal a w)/\
  ∀i∈Region.ready md ops listed,wpOp P ops Q i (λa' w'=>(late i=false->S w->S w')/\xV P md ops Q S late fuel (listed.setIfInBounds i true) a' w') a w
theorem Y5:∀(fuel:Nat) (listed:Array Bool) (a:Act) (w:World),xV P md ops Q S late fuel listed a w->wpAny P md ops Q fuel listed a w
 |0,_,_,_,h=>h
 |fuel+1,_,_,_,h=>⟨h.1,λi hi=>wpOp_mono (λa' w' k=>Y5 fuel _ a' w' k.2) (h.2 i hi)⟩
variable{i:Nat}{oi:Oper}{v:Value}
theorem VU{N:Nat}(hi:ops[i]?=some oi)(hsel:∀(j:Nat) (o:Oper) cs b,ops[j]?=some o->o.op≠.select cs b)(hQ:∀c a w,Q (.panic c) (a.put oi.dst v) w->Q (.panic c) a w)(hlate:∀j,late j=true->reachB md ops N j i=true):∀(fuel:Nat) (listed:Array Bool) (a:Act) (w:World),ShutDown md ops listed->(∀j oj,ops[j]?=some oj->j≠i->listed.getD j true=false->(∀e∈oj.after,Region.binds md e=true->e.on≠i)->oi.apart ops oj=true)->i∈Region.ready md ops listed->YieldsIf P ops S oi v a->S w->xV P md ops Q S late fuel (listed.setIfInBounds i true) (a.put oi.dst v) w->xV P md ops Q S late (fuel+1) listed a w:=by
 intro fuel
 induction fuel with
 |zero=>
  intro listed a w _ _ hr hy hS H;refine⟨λh=>(by rw[h] at hr;cases hr),λj hj=>?_⟩;by_cases hji:j=i
  .subst hji;exact hy.wpOp hi hS ⟨λ_ h=>h,H⟩
  .have:=ready_mono hj hji;rw[H.1] at this
   cases this
 |succ fuel ih=>
  intro listed a w hsd hfree hr hy hS H;refine⟨λh=>(by rw[h] at hr;cases hr),λj hj=>?_⟩;have hun:=(mem_ready.1 hr).1;by_cases hji:j=i
  .subst hji;exact hy.wpOp hi hS ⟨λ_ h=>h,H⟩
  .have h1:=H.2 j (ready_mono hj hji);obtain⟨hjun,oj,hoj,hall⟩:=mem_ready.1 hj;have hlj:late j=false:=by
    cases h:late j
    .rfl
    .have:=vU hsd N j i (hlate j h) (λo ho e he hb=>by
      obtain rfl:o=oj:=Option.some.inj (ho.symm.trans hoj);exact hall e he hb)
     rw[wJ hun] at this
     cases this
   have hnot:∀e∈oj.after,Region.binds md e=true->e.on≠i:=λe he hb heq=>by
    have h2:=hall e he hb;rw[heq,wJ hun] at h2
    cases h2
   have h2:=wpOp_putIf hoj (hfree j oj hoj hji hjun hnot) (λcs b=>hsel i oi cs b hi) (λcs b=>hsel j oj cs b hoj) hQ hy h1;have hfree' : ∀ k ok, ops[k]? = some ok -> k ≠ i -> (listed.setIfInBounds j true).getD k true = false ->
     (∀e∈ok.after,Region.binds md e=true->e.on≠i)->oi.apart ops ok=true:=λk ok hk hki hun hno=>by
    refine hfree k ok hk hki ?_ hno;by_cases hjk:j=k
    .subst hjk;exact hjun
    .rw[getD_set_ne true hjk] at hun;exact hun
   refine wpOp_mono (λa' w' h3=>⟨h3.2.1,ih (listed.setIfInBounds j true) a' w' (hsd.set hj) hfree' (ready_mono hr (Ne.symm hji)) h3.1 (h3.2.1 hlj hS) ?_⟩) h2;rw[Array.setIfInBounds_comm _ _ hji];exact h3.2.2
theorem YU(hi:ops[i]?=some oi)(hsel:∀(j:Nat) (o:Oper) cs b,ops[j]?=some o->o.op≠.select cs b)(hQ:∀c a w,Q (.panic c) (a.put oi.dst v) w->Q (.panic c) a w):∀(fuel:Nat) (listed:Array Bool) (a:Act) (w:World),(∀j oj,ops[j]?=some oj->j≠i->listed.getD j true=false->(∀e∈oj.after,Region.binds md e=true->e.on≠i)->oi.apart ops oj=true)->i∈Region.ready md ops listed->YieldsIf P ops (λ_=>True) oi v a->xV P md ops Q S late fuel (listed.setIfInBounds i true) (a.put oi.dst v) w->xV P md ops Q S late (fuel+1) listed a w:=by
 intro fuel
 induction fuel with
 |zero=>
  intro listed a w _ hr hy H;refine⟨λh=>(by rw[h] at hr;cases hr),λj hj=>?_⟩;by_cases hji:j=i
  .subst hji;exact hy.wpOp hi trivial ⟨λ_ h=>h,H⟩
  .have:=ready_mono hj hji;rw[H.1] at this
   cases this
 |succ fuel ih=>
  intro listed a w hfree hr hy H;refine⟨λh=>(by rw[h] at hr;cases hr),λj hj=>?_⟩;have hun:=(mem_ready.1 hr).1;by_cases hji:j=i
  .subst hji;exact hy.wpOp hi trivial ⟨λ_ h=>h,H⟩
  .have h1:=H.2 j (ready_mono hj hji);obtain⟨hjun,oj,hoj,hall⟩:=mem_ready.1 hj;have hnot:∀e∈oj.after,Region.binds md e=true->e.on≠i:=λe he hb heq=>by
    have h2:=hall e he hb;rw[heq,wJ hun] at h2
    cases h2
   have h2:=wpOp_putIf hoj (hfree j oj hoj hji hjun hnot) (λcs b=>hsel i oi cs b hi) (λcs b=>hsel j oj cs b hoj) hQ hy h1;have hfree' : ∀ k ok, ops[k]? = some ok -> k ≠ i -> (listed.setIfInBounds j true).getD k true = false ->
     (∀e∈ok.after,Region.binds md e=true->e.on≠i)->oi.apart ops ok=true:=λk ok hk hki hun hno=>by
    refine hfree k ok hk hki ?_ hno;by_cases hjk:j=k
    .subst hjk;exact hjun
    .rw[getD_set_ne true hjk] at hun;exact hun
   refine wpOp_mono (λa' w' h3=>⟨h3.2.1,ih (listed.setIfInBounds j true) a' w' hfree' (ready_mono hr (Ne.symm hji)) h3.1 ?_⟩) h2;rw[Array.setIfInBounds_comm _ _ hji];exact h3.2.2
def xW(P:Program)(ops:Array Oper)(Q:Exit->Act->World->Prop)(S:World->Prop)(late:Nat->Bool):PlanJ->Act->World->Prop
 |.fin,a,w=>Q .normal a w
 |.rd i r,a,w=>∃o v,ops[i]?=some o/\YieldsIf P ops S o v a/\S w/\(∀c a w,Q (.panic c) (a.put o.dst v) w->Q (.panic c) a w)/\xW P ops Q S late r (a.put o.dst v) w
 |.mv i r,a,w=>∃o v,ops[i]?=some o/\YieldsIf P ops (λ_=>True) o v a/\(∀c a w,Q (.panic c) (a.put o.dst v) w->Q (.panic c) a w)/\xW P ops Q S late r (a.put o.dst v) w
 |.go i r,a,w=>wpOp P ops Q i (λa' w'=>(late i=false->S w->S w')/\xW P ops Q S late r a' w') a w
 | .two i j ri rj, a, w => wpOp P ops Q i (λa' w' => (late i = false -> S w -> S w') /\ xW P ops Q S late ri a' w') a w /\
   wpOp P ops Q j (λa' w'=>(late j=false->S w->S w')/\xW P ops Q S late rj a' w') a w
 | .three i j k ri rj rk, a, w => wpOp P ops Q i (λa' w' => (late i = false -> S w -> S w') /\ xW P ops Q S late ri a' w') a w /\
   wpOp P ops Q j (λa' w'=>(late j=false->S w->S w')/\xW P ops Q S late rj a' w') a w/\
   wpOp P ops Q k (λa' w'=>(late k=false->S w->S w')/\xW P ops Q S late rk a' w') a w
def lI(md:Region.Mode)(ops:Array Oper)(late:Nat->Bool):PlanJ->Array Bool->Bool
 |.fin,listed=>(Region.ready md ops listed).isEmpty
 |.rd i r,listed=>(Region.ready md ops listed).contains i&&Region.free md ops listed i&&(List.range ops.size).all (λj=> !late j||reachB md ops ops.size j i)&&lI md ops late r (listed.setIfInBounds i true)
 |.mv i r,listed=>(Region.ready md ops listed).contains i&&Region.free md ops listed i&&lI md ops late r (listed.setIfInBounds i true)
 |.go i r,listed=>decide (Region.ready md ops listed=[i])&&lI md ops late r (listed.setIfInBounds i true)
 |.two i j ri rj,listed=>decide (Region.ready md ops listed=[i,j])&&decide (ri.len=rj.len)&&lI md ops late ri (listed.setIfInBounds i true)&&lI md ops late rj (listed.setIfInBounds j true)
 |.three i j k ri rj rk,listed=>decide (Region.ready md ops listed=[i,j,k])&&decide (ri.len=rj.len)&&decide (ri.len=rk.len)&&lI md ops late ri (listed.setIfInBounds i true)&&lI md ops late rj (listed.setIfInBounds j true)&&lI md ops late rk (listed.setIfInBounds k true)
theorem iK(hs:Region.noSelect ops=true)(hlt:∀j,late j=true->j<ops.size):∀(l:PlanJ) (listed:Array Bool) (a:Act) (w:World),lI md ops late l listed=true->ShutDown md ops listed->xW P ops Q S late l a w->xV P md ops Q S late l.len listed a w
 |.fin,listed,a,w,hb,_,h=>⟨by simpa [lI] using hb,h⟩
 |.rd i r,listed,a,w,hb,hd,h=>by
  simp only[lI,Bool.and_eq_true,Bool.not_eq_true',List.all_eq_true,List.mem_range,Bool.or_eq_true] at hb;obtain⟨⟨⟨h1,h2⟩,h4⟩,h5⟩:=hb;obtain⟨o,v,ho,hy,hS,hQ,hr⟩:=h;have hri:i∈Region.ready md ops listed:=by simpa using h1
  exact VU ho (Region.noSelect_spec hs) hQ (N:=ops.size) (λj hj=>by
   rcases h4 j (hlt j hj) with h|h
   .rw[hj] at h;cases h
   .exact h) r.len listed a w hd (Region.free_spec ho h2) hri hy hS (iK hs hlt r _ _ _ h5 (hd.set hri) hr)
 |.mv i r,listed,a,w,hb,hd,h=>by
  simp only[lI,Bool.and_eq_true] at hb;obtain⟨⟨h1,h2⟩,h5⟩:=hb;obtain⟨o,v,ho,hy,hQ,hr⟩:=h;have hri:i∈Region.ready md ops listed:=by simpa using h1
  exact YU ho (Region.noSelect_spec hs) hQ r.len listed a w (Region.free_spec ho h2) hri hy (iK hs hlt r _ _ _ h5 (hd.set hri) hr)
 |.go i r,listed,a,w,hb,hd,h=>by
  simp only[lI,Bool.and_eq_true,decide_eq_true_eq] at hb;obtain⟨h1,h2⟩:=hb;have hri:i∈Region.ready md ops listed:=by rw[h1];simp
  refine⟨λh0=>(by rw[h1] at h0;cases h0),λj hj=>?_⟩;rw[h1] at hj;obtain rfl:j=i:=by simpa using hj
  exact wpOp_mono (λa' w' k=>⟨k.1,iK hs hlt r _ _ _ h2 (hd.set hri) k.2⟩) h
 |.two i j ri rj,listed,a,w,hb,hd,h=>by
  simp only[lI,Bool.and_eq_true,decide_eq_true_eq] at hb;obtain⟨⟨⟨h1,h2⟩,h3⟩,h4⟩:=hb;have hi:i∈Region.ready md ops listed:=by rw[h1];simp
  have hj:j∈Region.ready md ops listed:=by rw[h1];simp
  refine⟨λh0=>(by rw[h1] at h0;cases h0),λk hk=>?_⟩;rw[h1] at hk;have hk2:k=i\/k=j:=by simpa using hk
  rcases hk2 with rfl|rfl
  .exact wpOp_mono (λa' w' q=>⟨q.1,iK hs hlt ri _ _ _ h3 (hd.set hi) q.2⟩) h.1
  .refine wpOp_mono (λa' w' q=>⟨q.1,?_⟩) h.2;have:=iK hs hlt rj _ a' w' h4 (hd.set hj) q.2;show xV P md ops Q S late ri.len _ a' w'
   rw[h2];exact this
 |.three i j k ri rj rk,listed,a,w,hb,hd,h=>by
  simp only[lI,Bool.and_eq_true,decide_eq_true_eq] at hb;obtain⟨⟨⟨⟨⟨h1,h2⟩,h2b⟩,h3⟩,h4⟩,h5⟩:=hb;have hi:i∈Region.ready md ops listed:=by rw[h1];simp
  have hj:j∈Region.ready md ops listed:=by rw[h1];simp
  have hk0:k∈Region.ready md ops listed:=by rw[h1];simp
  refine⟨λh0=>(by rw[h1] at h0;cases h0),λq hq=>?_⟩;rw[h1] at hq;have hk2:q=i\/q=j\/q=k:=by simpa using hq
  rcases hk2 with rfl|rfl|rfl
  .exact wpOp_mono (λa' w' q=>⟨q.1,iK hs hlt ri _ _ _ h3 (hd.set hi) q.2⟩) h.1
  .refine wpOp_mono (λa' w' q=>⟨q.1,?_⟩) h.2.1;have:=iK hs hlt rj _ a' w' h4 (hd.set hj) q.2;show xV P md ops Q S late ri.len _ a' w'
   rw[h2];exact this
  .refine wpOp_mono (λa' w' q=>⟨q.1,?_⟩) h.2.2;have:=iK hs hlt rk _ a' w' h5 (hd.set hk0) q.2;show xV P md ops Q S late ri.len _ a' w'
   rw[h2b];exact this
structure SeqJ (P:Program) (ops:Array Oper) (Q:Exit->Act->World->Prop) (S:World->Prop) (late:Nat->Bool) (l:PlanJ) (a:Act) (w:World):Prop where
 out:xW P ops Q S late l a w
variable{w:World}
theorem aEu{id:Nat}(l:PlanJ)(lt:List Nat)(hm:P.follows .mixedOrders=true)(hb:(Region.noSelect ops&&lt.all (λj=>decide (j<ops.size))&&decide (l.len=ops.size)&&lI .any ops (jR lt) l (Array.replicate ops.size false))=true)(h:SeqJ P ops Q S (jR lt) l a w.drew):(Code.region id ops true).wp P Q a w:=by
 simp only[Bool.and_eq_true,decide_eq_true_eq] at hb;obtain⟨⟨⟨h1,h2⟩,h3⟩,h4⟩:=hb;have h5:=iK (P:=P) (Q:=Q) (S:=S) h1 (λj hj=>by
  have:=List.all_eq_true.1 h2 j (by simpa [jR] using hj)
  simpa using this) l _ a w.drew h4 (oH ops.size) h.out
 rw[h3] at h5;exact wp_region_any hm (Y5 _ _ _ _ h5)
theorem aCb(h:Q .normal a w):SeqJ P ops Q S late .fin a w:=⟨h⟩
variable{o:Oper}{r:PlanJ}
theorem aIT(ho:ops[i]?=some o)(hQ:∀c a w,Q (.panic c) (a.put o.dst v) w->Q (.panic c) a w)(hw:Region.wanted o (yielded ops a.tmps)=true)(hS:S w)(hy:∀w,S w->(execOp a.eval o).run P w=.ok (.value v) w)(h:SeqJ P ops Q S late r (a.put o.dst v) w):SeqJ P ops Q S late (.rd i r) a w:=⟨⟨o,v,ho,Or.inl ⟨hw,hy⟩,hS,hQ,h.out⟩⟩
theorem aMU(ho:ops[i]?=some o)(hQ:∀c a w,Q (.panic c) (a.put o.dst v) w->Q (.panic c) a w)(hw:Region.wanted o (yielded ops a.tmps)=true)(hy:∀w,(execOp a.eval o).run P w=.ok (.value v) w)(h:SeqJ P ops Q S late r (a.put o.dst v) w):SeqJ P ops Q S late (.mv i r) a w:=⟨⟨o,v,ho,Or.inl ⟨hw,λw _=>hy w⟩,hQ,h.out⟩⟩
theorem aIU(ho:ops[i]?=some o)(hQ:∀c a w,Q (.panic c) (a.put o.dst undef) w->Q (.panic c) a w)(hw:Region.wanted o (yielded ops a.tmps)=false)(h:SeqJ P ops Q S late r (a.put o.dst undef) w):SeqJ P ops Q S late (.mv i r) a w:=⟨⟨o,undef,ho,Or.inr ⟨hw,rfl⟩,hQ,h.out⟩⟩
theorem aGt(ho:ops[i]?=some o)(hw:Region.wanted o (yielded ops a.tmps)=true)(h:∀K:Act->World->Prop,(∀a w',(late i=false->S w->S w')->SeqJ P ops Q S late r a w'->K a w')->WpI P o a w K Q):SeqJ P ops Q S late (.go i r) a w:=
 ⟨wpOp_step ho (λK' hK=>by rw[if_pos hw];exact (h K' (λa w h1 h2=>hK a w ⟨h1,h2.out⟩)).out)⟩
theorem aCa{l:PlanJ}(T:Act->World->Prop)(hr:∀A W,T A W->SeqJ P ops Q S late r A W)(hl:(∀A W,T A W->SeqJ P ops Q S late r A W)->SeqJ P ops Q S late l a w):SeqJ P ops Q S late l a w:=hl hr
end
end Go.Proofs.YthimcecbgpamdaaGreatDoor
namespace Go.Proofs.YthimcecbgpamdaaGreatDoor
open Go.RowKit
section
variable {P:Program}
structure OneC (P:Program) (ty:TypeId):Prop where
 agg:∀w,(isAgg ty).run P w=.ok false w
 size:∀w,(sizeOf ty).run P w=.ok 1 w
variable{f:Operand->Value}{g:Nat->Value}{o:Oper}{t:TypeId}{v:Value}
theorem aR(ty:TypeId)(x:Operand)(ho:o.op=.load ty x){b k N cap:Nat}(T:OneC P ty)(hx:f x=.pointer (some ⟨b,k,none⟩)){w:World}(hm:Vh t w b N cap g)(hn:k<N)(hv:g k=v):(execOp f o).run P w=.ok (.value v) w:=by
 have hc:=hm.cell hn;rw[hv] at hc;unfold execOp;simp only[ho,hx,Instr.loadAt,Instr.sureAddr,loadVar,Sem.run_bind,Sem.run_pure,Result.andThen_ok,T.agg];go_simp
variable{K:Act->World->Prop}{Q:Exit->Act->World->Prop}{a:Act}
theorem kL(w:World)(ty:TypeId)(x y:Operand)(ho:o.op=.store ty x y){b k N cap:Nat}(T:OneC P ty)(hx:a.eval x=.pointer (some ⟨b,k,none⟩))(hy:a.eval y=v)(hm:Vh t w b N cap g)(hn:k<N)(h1:v.oneCell'=true)(h2:v.cells=#[v])(hd:o.dst=none)(h:∀w',Vh t w' b N cap (eQ g k v)->Kept b w w'->w'.heap.size=w.heap.size->K a w'):WpI P o a w K Q:=by
 refine⟨?_⟩;have hh:=h _ (hm.set k v) (bI w b k v) (by simp);have st:(storeVar ty ⟨b,k,none⟩ v).run P w=.ok () (w.setCell ⟨b,k,none⟩ v):=by
  have hst:(store ((⟨b,k,none⟩:Addr).add 0) v).run P w=.ok () (w.setCell ⟨b,k,none⟩ v):=by
   rw[add_at,Nat.add_zero,run_store P w _ _ _ h1,hm.cell hn];simp[hm.free]
  unfold storeVar;simp only[h2,Sem.run_bind,T.size,Result.andThen_ok];simp[storeCells,hst]
 unfold Oper.wp execOp;simp only[ho,hx,hy,Instr.storeAt,Instr.sureAddr,Sem.run_bind,Sem.run_pure,Result.andThen_ok,st];show K (a.put o.dst undef) _
 rw[hd];exact hh
variable{n:Nat}
theorem bQ(s e:TypeId)(x y:Operand)(ho:o.op=.indexAddr s x y){len:Nat}(hu:P.underlying s=some (.array len e))(hs:∀w,(sizeOf e).run P w=.ok n w){b off i:Nat}{z:Int}(hx:f x=.pointer (some ⟨b,off,none⟩))(hy:f y=.int .i64 z)(hz:z=(i:Int))(hi:i<len)(w:World):(execOp f o).run P w=.ok (.value (.pointer (some ⟨b,off+i*n,none⟩))) w:=by
 subst hz;have h2:(i:Int)<(len:Int):=Yo;unfold execOp;simp only[ho,hx,hy,Instr.indexAt,asIntOf,Instr.sureAddr,Sem.run_bind,Sem.run_pure,Result.andThen_ok,run_underlying hu,add_at];simp[h2,hs]
variable{f:Nat->Value}
theorem X9(w:World)(ty:TypeId)(x:Operand)(ho:o.op=.box ty x)(hx:a.eval x=aP f 0 n)(hn:n<=maxLen)(h:∀w',Vh ty w' w.heap.size n n f->Below w.heap.size w w'->w'.heap.size=w.heap.size+1->K (a.put o.dst (.pointer (some ⟨w.heap.size,0,none⟩))) w'):WpI P o a w K Q:=by
 refine⟨?_⟩;have hh:=h (w.alloc (.cells ((List.range n).map f).toArray ty)) (Vh.of_row f n hn (by show (w.heap.push _)[w.heap.size]?=_;rw[Array.getElem?_push_size])) (bK _ _) (dG _ _);unfold Oper.wp execOp;simp only[ho,hx,Instr.box,newVar,newRow,newObj,aP,Value.cells,Nat.zero_add];go_simp
 exact hh
theorem gQ(w:World)(ty:TypeId)(ho:o.op=.alloc ty)(hz:∀w,(zeroValue ty).run P w=.ok (aP f 0 n) w)(hn:n<=maxLen)(h:∀w',Vh ty w' w.heap.size n n f->Below w.heap.size w w'->w'.heap.size=w.heap.size+1->K (a.put o.dst (.pointer (some ⟨w.heap.size,0,none⟩))) w'):WpI P o a w K Q:=by
 refine⟨?_⟩;have hh:=h (w.alloc (.cells ((List.range n).map f).toArray ty)) (Vh.of_row f n hn (by show (w.heap.push _)[w.heap.size]?=_;rw[Array.getElem?_push_size])) (bK _ _) (dG _ _);unfold Oper.wp execOp;simp only[ho,Instr.alloc,newVar,newRow,newObj,Sem.run_bind,hz,Result.andThen_ok,aP,Value.cells,Nat.zero_add];go_simp
 exact hh
end
end Go.Proofs.YthimcecbgpamdaaGreatDoor
namespace Go.Proofs.YthimcecbgpamdaaGreatDoor
open Go
def aL(A:Act):List (Nat×Value)->Act
 |[]=>A
 |(k,v)::l=>(aL A l).put (some k) v
def U8(k:Nat):List (Nat×Value)->Option Value
 |[]=>none
 |(j,v)::l=>cond (Nat.beq j k) (some v) (U8 k l)
theorem szL(A:Act)(l:List (Nat×Value)):(aL A l).tmps.size=A.tmps.size:=by
 induction l with
 |nil=>rfl
 |cons p l ih=>exact (QG _ _ _).trans ih
theorem aNs(A:Act)(l:List (Nat×Value)):(aL A l).defers=A.defers:=by
 induction l with
 |nil=>rfl
 |cons p l ih=>exact ih
variable{A:Act}{k:Nat}{l:List (Nat×Value)}{v:Value}
theorem LJ(h:U8 k l=some v)(hk:k<A.tmps.size):(aL A l).eval (.tmp k)=v:=by
 induction l with
 |nil=>cases h
 |cons p l ih=>
  obtain⟨j,u⟩:=p;show ((aL A l).put (some j) u).eval (.tmp k)=v
  unfold U8 at h
  cases e:Nat.beq j k with
  |true=>
   rw[e] at h;obtain rfl:j=k:=Nat.eq_of_beq_eq_true e;rw[FX _ _ _ (by rw[szL];exact hk)];exact Option.some.inj h
  |false=>
   rw[e] at h;rw[vD _ _ (Nat.ne_of_beq_eq_false e)];exact ih h
theorem vE(h:U8 k l=none)(hb:A.eval (.tmp k)=v):(aL A l).eval (.tmp k)=v:=by
 induction l with
 |nil=>exact hb
 |cons p l ih=>
  obtain⟨j,u⟩:=p;show ((aL A l).put (some j) u).eval (.tmp k)=v
  unfold U8 at h
  cases e:Nat.beq j k with
  |true=>rw[e] at h;cases h
  |false=>
   rw[e] at h;rw[vD _ _ (Nat.ne_of_beq_eq_false e)];exact ih h
section
variable {P:Program} {ops:Array Oper} {Q:Exit->Act->World->Prop} {A:Act} {l:List (Nat×Value)} {w:World} {rest:List Oper} {o:Oper} {d:Nat} {v:Value}
theorem aG{l':List Oper}(h:LstI P ops Q l' (aL A []) w):LstI P ops Q l' A w:=h
theorem OA(hd:o.dst=some d)(hw:Region.wanted o (yielded ops (aL A l).tmps)=true)(hy:(execOp (aL A l).eval o).run P w=.ok (.value v) w)(h:LstI P ops Q rest (aL A ((d,v)::l)) w):LstI P ops Q (o::rest) (aL A l) w:=
 aNv hw hy (by rw[hd];exact h)
theorem aAH(hd:o.dst=some d)(hw:Region.wanted o (yielded ops (aL A l).tmps)=false)(h:LstI P ops Q rest (aL A ((d,undef)::l)) w):LstI P ops Q (o::rest) (aL A l) w:=
 aKW hw (by rw[hd];exact h)
theorem bJ(hd:o.dst=some d)(hw:Region.wanted o (yielded ops (aL A l).tmps)=true)(h:∀K:Act->World->Prop,(∀v w',LstI P ops Q rest (aL A ((d,v)::l)) w'->K ((aL A l).put o.dst v) w')->WpI P o (aL A l) w K Q):LstI P ops Q (o::rest) (aL A l) w:=
 aKV hw (λK hK=>h K (λv _ h1=>by rw[hd];exact hK _ _ h1))
theorem kV(hw:Region.wanted o (yielded ops (aL A l).tmps)=true)(h:∀K:Act->World->Prop,(∀w',LstI P ops Q rest (aL A l) w'->K (aL A l) w')->WpI P o (aL A l) w K Q):LstI P ops Q (o::rest) (aL A l) w:=
 aKV hw (λK hK=>h K (λ_ h1=>hK _ _ h1))
theorem Ye(h:U8 k l=some v)(hk:k<A.tmps.size:=by omega):(aL A l).eval (.tmp k)=v:=LJ h hk
theorem Yv{p:Prop}(h:p:=by first|exact LJ rfl Yo|exact vE rfl (by assumption)|exact aI _ _):p:=h
theorem Yq(hy:(execOp (aL A l).eval o).run P w=.ok (.value v) w)(h:LstI P ops Q rest (aL A ((d,v)::l)) w)(hd:o.dst=some d:=by rfl)(hw:Region.wanted o (yielded ops (aL A l).tmps)=true:=by first|exact cB rfl|exact eH rfl rfl rfl Yv):LstI P ops Q (o::rest) (aL A l) w:=OA hd hw hy h
theorem Yp(h:LstI P ops Q rest (aL A ((d,v)::l)) w)(hd:o.dst=some d:=by rfl)(hw:Region.wanted o (yielded ops (aL A l).tmps)=true:=by first|exact cB rfl|exact eH rfl rfl rfl Yv)(hy:(execOp (aL A l).eval o).run P w=.ok (.value v) w:=by first|exact eG _ rfl Yv _|exact mW _ rfl Yv _):LstI P ops Q (o::rest) (aL A l) w:=OA hd hw hy h
theorem Yu(h:LstI P ops Q rest (aL A ((d,undef)::l)) w)(hd:o.dst=some d:=by rfl)(hw:Region.wanted o (yielded ops (aL A l).tmps)=false:=by exact E9 rfl rfl rfl Yv Yc):LstI P ops Q (o::rest) (aL A l) w:=aAH hd hw h
theorem Yx(h:LstI P ops Q rest (aL A ((d,v)::l)) w)(hd:o.dst=some d:=by rfl)(hw:Region.wanted o (yielded ops (aL A l).tmps)=true:=by first|exact cB rfl|exact eH rfl rfl rfl Yv)(hy:(execOp (aL A l).eval o).run P w=.ok (.value v) w:=by first|exact eG _ rfl Yv _|exact mW _ rfl Yv _|exact NF rfl Yv _|exact aAf rfl Yv _|exact aKz rfl Yv _|exact CY rfl Yv _|exact N8 rfl Yv _|exact aAg rfl Yv _|exact aAh rfl Yv _|exact aKA rfl Yv _|exact aKB rfl Yv _|exact aKC rfl Yv _|exact UD rfl Yv _|exact aKv rfl Yv _|exact aKw rfl Yv _|exact aKx rfl Yv _|exact aKy rfl Yv _|exact NG rfl Yv _|exact aAi rfl Yv _|exact aAj rfl Yv _|exact aKJ rfl Yv _|exact aKK rfl Yv _|exact aKL rfl Yv _|exact aAk rfl Yv _|exact aAl rfl Yv _|exact aAm rfl Yv _|exact aAn rfl Yv _|exact aAo rfl Yv _|exact aAp rfl Yv _|exact aAq rfl Yv _|exact aKF rfl Yv _|exact aKG rfl Yv _|exact aKH rfl Yv _|exact aKI rfl Yv _|exact aKD rfl Yv _|exact aKE rfl Yv _|exact aR _ _ rfl iZ Yv (by assumption) Yc rfl|exact aR _ _ rfl tX Yv (by assumption) Yc rfl|exact aR _ _ rfl iT Yv (by assumption) Yc rfl|exact aR _ _ rfl aGq Yv (by assumption) Yc rfl|exact aR _ _ rfl aLr Yv (by assumption) Yc rfl|exact aR _ _ rfl aNw Yv (by assumption) Yc rfl|exact aR _ _ rfl oneFn Yv (by assumption) Yc rfl|exact aV _ _ rfl bG Yv (by assumption) Yc|exact aV _ _ rfl dZ Yv (by assumption) Yc|exact aV _ _ rfl dM Yv (by assumption) Yc|exact aV _ _ rfl jJ Yv (by assumption) Yc|exact aV _ _ rfl fE Yv (by assumption) Yc|exact aV _ _ rfl OC Yv (by assumption) Yc|exact aV _ _ rfl aAI Yv (by assumption) Yc|exact aV _ _ rfl nA Yv (by assumption) Yc|exact aV _ _ rfl OB Yv (by assumption) Yc|exact aV _ _ rfl DL Yv (by assumption) Yc|exact aV _ _ rfl aHY Yv (by assumption) Yc|exact jO _ _ rfl Yv Yv Yo Yo _|exact aEW _ rfl Yv _|exact rV _ rfl Yv _|exact rW _ rfl Yv _|exact zZ _ _ rfl Yv _|exact iC (b:=true) _ _ rfl Yv Yv (Xt Yo) _|exact iC (b:=false) _ _ rfl Yv Yv (Xf Yo) _):LstI P ops Q (o::rest) (aL A l) w:=OA hd hw hy h
variable{f:Nat->Value}{n:Nat}{ty:TypeId}
theorem Za(hz:∀w,(zeroValue ty).run P w=.ok (aP f 0 n) w)(h:∀w',Vh ty w' w.heap.size n n f->Go.RowKit.Below w.heap.size w w'->w'.heap.size=w.heap.size+1->LstI P ops Q rest (aL A ((d,.pointer (some ⟨w.heap.size,0,none⟩))::l)) w')(ho:o.op=.alloc ty:=by rfl)(hd:o.dst=some d:=by rfl)(hn:n<=maxLen:=by exact Xu rfl)(hw:Region.wanted o (yielded ops (aL A l).tmps)=true:=by exact cB rfl):LstI P ops Q (o::rest) (aL A l) w:=bJ hd hw (λ_ hK=>gQ w ty ho hz hn (λw' m k z=>hK _ _ (h w' m k z)))
variable{x:Operand}
theorem Zb(h:∀w',Vh ty w' w.heap.size n n f->Go.RowKit.Below w.heap.size w w'->w'.heap.size=w.heap.size+1->LstI P ops Q rest (aL A ((d,.pointer (some ⟨w.heap.size,0,none⟩))::l)) w')(ho:o.op=.box ty x:=by rfl)(hd:o.dst=some d:=by rfl)(hx:(aL A l).eval x=aP f 0 n:=by exact Yv)(hn:n<=maxLen:=by exact Xu rfl)(hw:Region.wanted o (yielded ops (aL A l).tmps)=true:=by exact cB rfl):LstI P ops Q (o::rest) (aL A l) w:=bJ hd hw (λ_ hK=>X9 w ty x ho hx hn (λw' m k z=>hK _ _ (h w' m k z)))
theorem Zs{t:TypeId}{b N cap:Nat}{g:Nat->Value}{y:Operand}(T:Many P ty n)(hm:Vh t w b N cap g)(h1:∀j,j<n->(f j).oneCell'=true)(h:∀w',Vh t w' b N cap (stP g k n f)->Kept b w w'->w'.heap.size=w.heap.size->LstI P ops Q rest (aL A l) w')(ho:o.op=.store ty x y:=by rfl)(hd:o.dst=none:=by rfl)(hx:(aL A l).eval x=.pointer (some ⟨b,k,none⟩):=by exact Yv)(hy:(aL A l).eval y=aP f 0 n:=by exact Yv)(hn:k+n<=N:=by first|decide|omega)(hw:Region.wanted o (yielded ops (aL A l).tmps)=true:=by exact cB rfl):LstI P ops Q (o::rest) (aL A l) w:=kV hw (λ_ hK=>aW w ty x y ho T hx hy hm hn h1 hd (λw' m k z=>hK _ (h w' m k z)))
variable {S:World->Prop} {late:Nat->Bool} {i:Nat} {r:PlanJ}
theorem GJ{p:PlanJ}(h:SeqJ P ops Q S late p (aL A []) w):SeqJ P ops Q S late p A w:=h
theorem bS(ho:ops[i]?=some o)(hd:o.dst=some d)(hQ:∀c a w,Q (.panic c) (a.put (some d) v) w->Q (.panic c) a w)(hw:Region.wanted o (yielded ops (aL A l).tmps)=true)(hy:∀w,(execOp (aL A l).eval o).run P w=.ok (.value v) w)(h:SeqJ P ops Q S late r (aL A ((d,v)::l)) w):SeqJ P ops Q S late (.mv i r) (aL A l) w:=
 aMU ho (by rw[hd];exact hQ) hw hy (by rw[hd];exact h)
theorem WL(ho:ops[i]?=some o)(hd:o.dst=some d)(hQ:∀c a w,Q (.panic c) (a.put (some d) v) w->Q (.panic c) a w)(hw:Region.wanted o (yielded ops (aL A l).tmps)=true)(hS:S w)(hy:∀w,S w->(execOp (aL A l).eval o).run P w=.ok (.value v) w)(h:SeqJ P ops Q S late r (aL A ((d,v)::l)) w):SeqJ P ops Q S late (.rd i r) (aL A l) w:=
 aIT ho (by rw[hd];exact hQ) hw hS hy (by rw[hd];exact h)
theorem aAz(ho:ops[i]?=some o)(hd:o.dst=some d)(hQ:∀c a w,Q (.panic c) (a.put (some d) undef) w->Q (.panic c) a w)(hw:Region.wanted o (yielded ops (aL A l).tmps)=false)(h:SeqJ P ops Q S late r (aL A ((d,undef)::l)) w):SeqJ P ops Q S late (.mv i r) (aL A l) w:=
 aIU ho (by rw[hd];exact hQ) hw (by rw[hd];exact h)
theorem bR(ho:ops[i]?=some o)(hd:o.dst=some d)(hw:Region.wanted o (yielded ops (aL A l).tmps)=true)(h:∀K:Act->World->Prop,(∀v w',(late i=false->S w->S w')->SeqJ P ops Q S late r (aL A ((d,v)::l)) w'->K ((aL A l).put o.dst v) w')->WpI P o (aL A l) w K Q):SeqJ P ops Q S late (.go i r) (aL A l) w:=
 aGt ho hw (λK hK=>h K (λv _ h1 h2=>by rw[hd];exact hK _ _ h1 h2))
theorem dS(ho:ops[i]?=some o)(hw:Region.wanted o (yielded ops (aL A l).tmps)=true)(h:∀K:Act->World->Prop,(∀w',(late i=false->S w->S w')->SeqJ P ops Q S late r (aL A l) w'->K (aL A l) w')->WpI P o (aL A l) w K Q):SeqJ P ops Q S late (.go i r) (aL A l) w:=
 aGt ho hw (λK hK=>h K (λ_ h1 h2=>hK _ _ h1 h2))
theorem Yk(ho:ops[i]?=some o)(hy:∀w,(execOp (aL A l).eval o).run P w=.ok (.value v) w)(h:SeqJ P ops Q S late r (aL A ((d,v)::l)) w)(hd:o.dst=some d:=by rfl)(hQ:∀c a w,Q (.panic c) (a.put (some d) v) w->Q (.panic c) a w:=by exact λ_ _ _ h=>h)(hw:Region.wanted o (yielded ops (aL A l).tmps)=true:=by first|exact cB rfl|exact eH rfl rfl rfl Yv):SeqJ P ops Q S late (.mv i r) (aL A l) w:=bS ho hd hQ hw hy h
theorem Yj(h:SeqJ P ops Q S late r (aL A ((d,v)::l)) w)(ho:ops[i]?=some o:=by rfl)(hd:o.dst=some d:=by rfl)(hQ:∀c a w,Q (.panic c) (a.put (some d) v) w->Q (.panic c) a w:=by exact λ_ _ _ h=>h)(hw:Region.wanted o (yielded ops (aL A l).tmps)=true:=by first|exact cB rfl|exact eH rfl rfl rfl Yv)(hy:∀w,(execOp (aL A l).eval o).run P w=.ok (.value v) w:=by first|exact λ_=>eG _ rfl Yv _|exact λ_=>mW _ rfl Yv _):SeqJ P ops Q S late (.mv i r) (aL A l) w:=bS ho hd hQ hw hy h
theorem Yr(ho:ops[i]?=some o)(hS:S w)(hy:∀w,S w->(execOp (aL A l).eval o).run P w=.ok (.value v) w)(h:SeqJ P ops Q S late r (aL A ((d,v)::l)) w)(hd:o.dst=some d:=by rfl)(hQ:∀c a w,Q (.panic c) (a.put (some d) v) w->Q (.panic c) a w:=by exact λ_ _ _ h=>h)(hw:Region.wanted o (yielded ops (aL A l).tmps)=true:=by first|exact cB rfl|exact eH rfl rfl rfl Yv):SeqJ P ops Q S late (.rd i r) (aL A l) w:=WL ho hd hQ hw hS hy h
theorem LM{j:Nat}{r':PlanJ}(h:SeqJ P ops Q S late (.go i r) (aL A l) w)(h':SeqJ P ops Q S late (.go j r') (aL A l) w):SeqJ P ops Q S late (.two i j r r') (aL A l) w:=⟨⟨h.out,h'.out⟩⟩
end
end Go.Proofs.YthimcecbgpamdaaGreatDoor
