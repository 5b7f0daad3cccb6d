import Derived.OrdersHeld
import Derived.WalkKit
namespace Go.Proofs.YthimcecbgpamdaaGreatDoor
open Go
section
variable {P:Program} {ops:Array Oper} {Q:Exit->Act->World->Prop} {md:Region.Mode} {S:World->Prop} {late:Nat->Bool}
def yZ(P:Program)(md:Region.Mode)(ops:Array Oper)(Q:Exit->Act->World->Prop)(S:World->Prop)(late:Nat->Bool):Nat->Array Bool->Act->World->Prop
 |0,listed,a,w=>Region.ready md ops listed=[]/\Q .normal a w
 |fuel+1,listed,a,w=>
  (Region.ready md ops listed=[]->Q .normal a w)/\
  ∀i∈Region.ready md ops listed,wpOp P ops Q i (λa' w'=>(late i=false->S w')/\yZ P md ops Q S late fuel (listed.setIfInBounds i true) a' w') a w
theorem sH:∀(fuel:Nat) (listed:Array Bool) (a:Act) (w:World),yZ P md ops Q S late fuel listed a w->wpAny P md ops Q fuel listed a w
 |0,_,_,_,h=>h
 |fuel+1,_,_,_,h=>⟨h.1,λi hi=>wpOp_mono (λa' w' k=>sH fuel _ a' w' k.2) (h.2 i hi)⟩
def ShutDown(md:Region.Mode)(ops:Array Oper)(listed:Array Bool):Prop:=
 ∀j oj,ops[j]?=some oj->listed.getD j false=true->∀e∈oj.after,Region.binds md e=true->listed.getD e.on false=true
variable{i:Nat}{listed:Array Bool}
theorem ShutDown.set(h:ShutDown md ops listed)(hi:i∈Region.ready md ops listed):ShutDown md ops (listed.setIfInBounds i true):=by
 obtain⟨_,oi,hoi,hall⟩:=mem_ready.1 hi;intro j oj hj hl e he hb;by_cases hij:i=j
 .subst hij;obtain rfl:oj=oi:=Option.some.inj (hj.symm.trans hoi);exact getD_set_true (hall e he hb)
 .rw[getD_set_ne false hij] at hl;exact getD_set_true (h j oj hj hl e he hb)
theorem oH(n:Nat):ShutDown md ops (Array.replicate n false):=by
 intro j oj _ hl;rcases Nat.lt_or_ge j n with h|h
 .simp[h] at hl
 .simp[h] at hl
def reachB(md:Region.Mode)(ops:Array Oper):Nat->Nat->Nat->Bool
 |0,_,_=>false
 |f+1,j,i=>match ops[j]? with
  |some oj=>oj.after.any λe=>Region.binds md e&&(e.on==i||reachB md ops f e.on i)
  |none=>false
theorem vU(h:ShutDown md ops listed):∀(f j i:Nat),reachB md ops f j i=true->(∀oj,ops[j]?=some oj->∀e∈oj.after,Region.binds md e=true->listed.getD e.on false=true)->listed.getD i false=true
 |0,_,_,hr,_=>by cases hr
 |f+1,j,i,hr,hp=>by
  unfold reachB at hr;split at hr
  .rename_i oj hj;obtain⟨e,he,hb⟩:=Array.any_eq_true'.1 hr;simp only[Bool.and_eq_true,Bool.or_eq_true,beq_iff_eq] at hb;have hl:=hp oj hj e he hb.1;rcases hb.2 with h1|h1
   .rw[h1] at hl;exact hl
   .exact vU h f e.on i h1 (λoe hoe e' he' hb'=>h e.on oe hoe hl e' he' hb')
  .cases hr
theorem wJ(h:listed.getD i true=false):listed.getD i false=false:=by grind
variable{v:Value}
theorem CE{N:Nat}{oi:Oper}(hi:ops[i]?=some oi)(hsel:∀(j:Nat) (o:Oper) cs b,ops[j]?=some o->o.op≠.select cs b)(hQ:∀c a w,Q (.panic c) (a.put oi.dst v) w->Q (.panic c) a w)(hli:late i=false)(hlate:∀j,late j=true->reachB md ops N j i=true):∀(fuel:Nat) (listed:Array Bool) (a:Act) (w:World),ShutDown md ops listed->(∀j oj,ops[j]?=some oj->j≠i->listed.getD j true=false->(∀e∈oj.after,Region.binds md e=true->e.on≠i)->oi.apart ops oj=true)->i∈Region.ready md ops listed->YieldsIf P ops S oi v a->S w->yZ P md ops Q S late fuel (listed.setIfInBounds i true) (a.put oi.dst v) w->yZ P md ops Q S late (fuel+1) listed a w:=by
 intro fuel
 induction fuel with
 |zero=>
  intro listed a w _ _ hr hy hS H;refine⟨λh=>(by rw[h] at hr;cases hr),λj hj=>?_⟩;by_cases hji:j=i
  .subst hji;exact hy.wpOp hi hS ⟨λ_=>hS,H⟩
  .have:=ready_mono hj hji;rw[H.1] at this
   cases this
 |succ fuel ih=>
  intro listed a w hsd hfree hr hy hS H;refine⟨λh=>(by rw[h] at hr;cases hr),λj hj=>?_⟩;have hun:=(mem_ready.1 hr).1;by_cases hji:j=i
  .subst hji;exact hy.wpOp hi hS ⟨λ_=>hS,H⟩
  .have h1:=H.2 j (ready_mono hj hji);obtain⟨hjun,oj,hoj,hall⟩:=mem_ready.1 hj;have hlj:late j=false:=by
    cases h:late j
    .rfl
    .have:=vU hsd N j i (hlate j h) (λo ho e he hb=>by
      obtain rfl:o=oj:=Option.some.inj (ho.symm.trans hoj);exact hall e he hb)
     rw[wJ hun] at this
     cases this
   have hnot:∀e∈oj.after,Region.binds md e=true->e.on≠i:=λe he hb heq=>by
    have h2:=hall e he hb;rw[heq,wJ hun] at h2
    cases h2
   have h2:=wpOp_putIf hoj (hfree j oj hoj hji hjun hnot) (λcs b=>hsel i oi cs b hi) (λcs b=>hsel j oj cs b hoj) hQ hy h1;have hfree' : ∀ k ok, ops[k]? = some ok -> k ≠ i -> (listed.setIfInBounds j true).getD k true = false ->
     (∀e∈ok.after,Region.binds md e=true->e.on≠i)->oi.apart ops ok=true:=λk ok hk hki hun hno=>by
    refine hfree k ok hk hki ?_ hno;by_cases hjk:j=k
    .subst hjk;exact hjun
    .rw[getD_set_ne true hjk] at hun;exact hun
   refine wpOp_mono (λa' w' h3=>⟨h3.2.1,ih (listed.setIfInBounds j true) a' w' (hsd.set hj) hfree' (ready_mono hr (Ne.symm hji)) h3.1 (h3.2.1 hlj) ?_⟩) h2;rw[Array.setIfInBounds_comm _ _ hji];exact h3.2.2
def iW(P:Program)(ops:Array Oper)(Q:Exit->Act->World->Prop)(S:World->Prop)(late:Nat->Bool):List (Nat×Bool)->Act->World->Prop
 |[],a,w=>Q .normal a w
 |(i,false)::r,a,w=>∃o v,ops[i]?=some o/\YieldsIf P ops S o v a/\S w/\(∀c a w,Q (.panic c) (a.put o.dst v) w->Q (.panic c) a w)/\iW P ops Q S late r (a.put o.dst v) w
 |(i,true)::r,a,w=>wpOp P ops Q i (λa' w'=>(late i=false->S w')/\iW P ops Q S late r a' w') a w
def BK(md:Region.Mode)(ops:Array Oper)(late:Nat->Bool):List (Nat×Bool)->Array Bool->Bool
 |[],listed=>(Region.ready md ops listed).isEmpty
 |(i,false)::r,listed=>(Region.ready md ops listed).contains i&&Region.free md ops listed i&& !late i&&(List.range ops.size).all (λj=> !late j||reachB md ops ops.size j i)&&BK md ops late r (listed.setIfInBounds i true)
 |(i,true)::r,listed=>decide (Region.ready md ops listed=[i])&&BK md ops late r (listed.setIfInBounds i true)
theorem xX(hs:Region.noSelect ops=true)(hlt:∀j,late j=true->j<ops.size):∀(l:List (Nat×Bool)) (listed:Array Bool) (a:Act) (w:World),BK md ops late l listed=true->ShutDown md ops listed->iW P ops Q S late l a w->yZ P md ops Q S late l.length listed a w
 |[],listed,a,w,hb,_,h=>⟨by simpa [BK] using hb,h⟩
 |(i,false)::r,listed,a,w,hb,hd,h=>by
  simp only[BK,Bool.and_eq_true,Bool.not_eq_true',List.all_eq_true,List.mem_range,Bool.or_eq_true] at hb;obtain⟨⟨⟨⟨h1,h2⟩,h3⟩,h4⟩,h5⟩:=hb;obtain⟨o,v,ho,hy,hS,hQ,hr⟩:=h;have hri:i∈Region.ready md ops listed:=by simpa using h1
  exact CE ho (Region.noSelect_spec hs) hQ h3 (N:=ops.size) (λj hj=>by
   rcases h4 j (hlt j hj) with h|h
   .rw[hj] at h;cases h
   .exact h) r.length listed a w hd (Region.free_spec ho h2) hri hy hS (xX hs hlt r _ _ _ h5 (hd.set hri) hr)
 |(i,true)::r,listed,a,w,hb,hd,h=>by
  simp only[BK,Bool.and_eq_true,decide_eq_true_eq] at hb;obtain⟨h1,h2⟩:=hb;have hri:i∈Region.ready md ops listed:=by rw[h1];simp
  refine⟨λh0=>(by rw[h1] at h0;cases h0),λj hj=>?_⟩;rw[h1] at hj;obtain rfl:j=i:=by simpa using hj
  exact wpOp_mono (λa' w' k=>⟨k.1,xX hs hlt r _ _ _ h2 (hd.set hri) k.2⟩) h
def jR(l:List Nat):Nat->Bool:=λj=>l.contains j
variable{a:Act}{w:World}
theorem fD{id:Nat}(l:List (Nat×Bool))(lt:List Nat)(hm:P.follows .mixedOrders=true)(hb:(Region.noSelect ops&&lt.all (λj=>decide (j<ops.size))&&decide (l.length=ops.size)&&BK .any ops (jR lt) l (Array.replicate ops.size false))=true)(h:iW P ops Q S (jR lt) l a w.drew):(Code.region id ops true).wp P Q a w:=by
 simp only[Bool.and_eq_true,decide_eq_true_eq] at hb;obtain⟨⟨⟨h1,h2⟩,h3⟩,h4⟩:=hb;have h5:=xX (P:=P) (Q:=Q) (S:=S) h1 (λj hj=>by
  have:=List.all_eq_true.1 h2 j (by simpa [jR] using hj)
  simpa using this) l _ a w.drew h4 (oH ops.size) h
 rw[h3] at h5;exact wp_region_any hm (sH _ _ _ _ h5)
theorem gV(h:Q .normal a w):iW P ops Q S late [] a w:=h
variable{o:Oper}{r:List (Nat×Bool)}
theorem bH(ho:ops[i]?=some o)(hQ:∀c a w,Q (.panic c) (a.put o.dst v) w->Q (.panic c) a w)(hw:Region.wanted o (yielded ops a.tmps)=true)(hS:S w)(hy:∀w,S w->(execOp a.eval o).run P w=.ok (.value v) w)(h:iW P ops Q S late r (a.put o.dst v) w):iW P ops Q S late ((i,false)::r) a w:=
 ⟨o,v,ho,Or.inl ⟨hw,hy⟩,hS,hQ,h⟩
theorem bO(ho:ops[i]?=some o)(h:∀K:Act->World->Prop,(∀a w,(late i=false->S w)->iW P ops Q S late r a w->K a w)->if Region.wanted o (yielded ops a.tmps)=true then Oper.wp P o a w K Q else K (a.put o.dst undef) w):iW P ops Q S late ((i,true)::r) a w:=
 wpOp_step ho (λK' hK=>h K' (λa w h1 h2=>hK a w ⟨h1,h2⟩))
end
inductive Plan where
 |fin
 |rd (i:Nat) (r:Plan)
 |go (i:Nat) (r:Plan)
 |two (i j:Nat) (ri rj:Plan)
 |three (i j k:Nat) (ri rj rk:Plan)
def Plan.len:Plan->Nat
 |.fin=>0
 |.rd _ r=>r.len+1
 |.go _ r=>r.len+1
 |.two _ _ r _=>r.len+1
 |.three _ _ _ r _ _=>r.len+1
section
variable {P:Program} {ops:Array Oper} {Q:Exit->Act->World->Prop} {md:Region.Mode} {S:World->Prop} {late:Nat->Bool}
def nK(P:Program)(ops:Array Oper)(Q:Exit->Act->World->Prop)(S:World->Prop)(late:Nat->Bool):Plan->Act->World->Prop
 |.fin,a,w=>Q .normal a w
 |.rd i r,a,w=>∃o v,ops[i]?=some o/\YieldsIf P ops S o v a/\S w/\(∀c a w,Q (.panic c) (a.put o.dst v) w->Q (.panic c) a w)/\nK P ops Q S late r (a.put o.dst v) w
 |.go i r,a,w=>wpOp P ops Q i (λa' w'=>(late i=false->S w')/\nK P ops Q S late r a' w') a w
 | .two i j ri rj, a, w => wpOp P ops Q i (λa' w' => (late i = false -> S w') /\ nK P ops Q S late ri a' w') a w /\
   wpOp P ops Q j (λa' w'=>(late j=false->S w')/\nK P ops Q S late rj a' w') a w
 | .three i j k ri rj rk, a, w => wpOp P ops Q i (λa' w' => (late i = false -> S w') /\ nK P ops Q S late ri a' w') a w /\
   wpOp P ops Q j (λa' w'=>(late j=false->S w')/\nK P ops Q S late rj a' w') a w/\
   wpOp P ops Q k (λa' w'=>(late k=false->S w')/\nK P ops Q S late rk a' w') a w
def lW(md:Region.Mode)(ops:Array Oper)(late:Nat->Bool):Plan->Array Bool->Bool
 |.fin,listed=>(Region.ready md ops listed).isEmpty
 |.rd i r,listed=>(Region.ready md ops listed).contains i&&Region.free md ops listed i&& !late i&&(List.range ops.size).all (λj=> !late j||reachB md ops ops.size j i)&&lW md ops late r (listed.setIfInBounds i true)
 |.go i r,listed=>decide (Region.ready md ops listed=[i])&&lW md ops late r (listed.setIfInBounds i true)
 |.two i j ri rj,listed=>decide (Region.ready md ops listed=[i,j])&&decide (ri.len=rj.len)&&lW md ops late ri (listed.setIfInBounds i true)&&lW md ops late rj (listed.setIfInBounds j true)
 |.three i j k ri rj rk,listed=>decide (Region.ready md ops listed=[i,j,k])&&decide (ri.len=rj.len)&&decide (ri.len=rk.len)&&lW md ops late ri (listed.setIfInBounds i true)&&lW md ops late rj (listed.setIfInBounds j true)&&lW md ops late rk (listed.setIfInBounds k true)
theorem iJ(hs:Region.noSelect ops=true)(hlt:∀j,late j=true->j<ops.size):∀(l:Plan) (listed:Array Bool) (a:Act) (w:World),lW md ops late l listed=true->ShutDown md ops listed->nK P ops Q S late l a w->yZ P md ops Q S late l.len listed a w
 |.fin,listed,a,w,hb,_,h=>⟨by simpa [lW] using hb,h⟩
 |.rd i r,listed,a,w,hb,hd,h=>by
  simp only[lW,Bool.and_eq_true,Bool.not_eq_true',List.all_eq_true,List.mem_range,Bool.or_eq_true] at hb;obtain⟨⟨⟨⟨h1,h2⟩,h3⟩,h4⟩,h5⟩:=hb;obtain⟨o,v,ho,hy,hS,hQ,hr⟩:=h;have hri:i∈Region.ready md ops listed:=by simpa using h1
  exact CE ho (Region.noSelect_spec hs) hQ h3 (N:=ops.size) (λj hj=>by
   rcases h4 j (hlt j hj) with h|h
   .rw[hj] at h;cases h
   .exact h) r.len listed a w hd (Region.free_spec ho h2) hri hy hS (iJ hs hlt r _ _ _ h5 (hd.set hri) hr)
 |.go i r,listed,a,w,hb,hd,h=>by
  simp only[lW,Bool.and_eq_true,decide_eq_true_eq] at hb;obtain⟨h1,h2⟩:=hb;have hri:i∈Region.ready md ops listed:=by rw[h1];simp
  refine⟨λh0=>(by rw[h1] at h0;cases h0),λj hj=>?_⟩;rw[h1] at hj;obtain rfl:j=i:=by simpa using hj
  exact wpOp_mono (λa' w' k=>⟨k.1,iJ hs hlt r _ _ _ h2 (hd.set hri) k.2⟩) h
 |.two i j ri rj,listed,a,w,hb,hd,h=>by
  simp only[lW,Bool.and_eq_true,decide_eq_true_eq] at hb;obtain⟨⟨⟨h1,h2⟩,h3⟩,h4⟩:=hb;have hi:i∈Region.ready md ops listed:=by rw[h1];simp
  have hj:j∈Region.ready md ops listed:=by rw[h1];simp
  refine⟨λh0=>(by rw[h1] at h0;cases h0),λk hk=>?_⟩;rw[h1] at hk;have hk2:k=i\/k=j:=by simpa using hk
  rcases hk2 with rfl|rfl
  .exact wpOp_mono (λa' w' q=>⟨q.1,iJ hs hlt ri _ _ _ h3 (hd.set hi) q.2⟩) h.1
  .refine wpOp_mono (λa' w' q=>⟨q.1,?_⟩) h.2;have:=iJ hs hlt rj _ a' w' h4 (hd.set hj) q.2;show yZ P md ops Q S late ri.len _ a' w'
   rw[h2];exact this
 |.three i j k ri rj rk,listed,a,w,hb,hd,h=>by
  simp only[lW,Bool.and_eq_true,decide_eq_true_eq] at hb;obtain⟨⟨⟨⟨⟨h1,h2⟩,h3⟩,h4⟩,h5⟩,h6⟩:=hb;have hi:i∈Region.ready md ops listed:=by rw[h1];simp
  have hj:j∈Region.ready md ops listed:=by rw[h1];simp
  have hk:k∈Region.ready md ops listed:=by rw[h1];simp
  refine⟨λh0=>(by rw[h1] at h0;cases h0),λm hm=>?_⟩;rw[h1] at hm;have hm2:m=i\/m=j\/m=k:=by simpa using hm
  rcases hm2 with rfl|rfl|rfl
  .exact wpOp_mono (λa' w' q=>⟨q.1,iJ hs hlt ri _ _ _ h4 (hd.set hi) q.2⟩) h.1
  .refine wpOp_mono (λa' w' q=>⟨q.1,?_⟩) h.2.1;have:=iJ hs hlt rj _ a' w' h5 (hd.set hj) q.2;show yZ P md ops Q S late ri.len _ a' w'
   rw[h2];exact this
  .refine wpOp_mono (λa' w' q=>⟨q.1,?_⟩) h.2.2;have:=iJ hs hlt rk _ a' w' h6 (hd.set hk) q.2;show yZ P md ops Q S late ri.len _ a' w'
   rw[h3];exact this
variable{a:Act}{w:World}
theorem TC{id:Nat}(l:Plan)(lt:List Nat)(hm:P.follows .mixedOrders=true)(hb:(Region.noSelect ops&&lt.all (λj=>decide (j<ops.size))&&decide (l.len=ops.size)&&lW .any ops (jR lt) l (Array.replicate ops.size false))=true)(h:nK P ops Q S (jR lt) l a w.drew):(Code.region id ops true).wp P Q a w:=by
 simp only[Bool.and_eq_true,decide_eq_true_eq] at hb;obtain⟨⟨⟨h1,h2⟩,h3⟩,h4⟩:=hb;have h5:=iJ (P:=P) (Q:=Q) (S:=S) h1 (λj hj=>by
  have:=List.all_eq_true.1 h2 j (by simpa [jR] using hj)
  simpa using this) l _ a w.drew h4 (oH ops.size) h
 rw[h3] at h5;exact wp_region_any hm (sH _ _ _ _ h5)
variable{i:Nat}{o:Oper}{r:Plan}
theorem aBc{v:Value}(ho:ops[i]?=some o)(hQ:∀c a w,Q (.panic c) (a.put o.dst v) w->Q (.panic c) a w)(hw:Region.wanted o (yielded ops a.tmps)=true)(hS:S w)(hy:∀w,S w->(execOp a.eval o).run P w=.ok (.value v) w)(h:nK P ops Q S late r (a.put o.dst v) w):nK P ops Q S late (.rd i r) a w:=
 ⟨o,v,ho,Or.inl ⟨hw,hy⟩,hS,hQ,h⟩
theorem aIu(ho:ops[i]?=some o)(h:∀K:Act->World->Prop,(∀a w,(late i=false->S w)->nK P ops Q S late r a w->K a w)->if Region.wanted o (yielded ops a.tmps)=true then Oper.wp P o a w K Q else K (a.put o.dst undef) w):nK P ops Q S late (.go i r) a w:=
 wpOp_step ho (λK' hK=>h K' (λa w h1 h2=>hK a w ⟨h1,h2⟩))
theorem aEk{j:Nat}{oi oj:Oper}{ri rj:Plan}(hoi:ops[i]?=some oi)(hoj:ops[j]?=some oj)(h:∀K:Act->World->Prop,(∀a w,(late i=false->S w)->nK P ops Q S late ri a w->K a w)->if Region.wanted oi (yielded ops a.tmps)=true then Oper.wp P oi a w K Q else K (a.put oi.dst undef) w)(k:∀K:Act->World->Prop,(∀a w,(late j=false->S w)->nK P ops Q S late rj a w->K a w)->if Region.wanted oj (yielded ops a.tmps)=true then Oper.wp P oj a w K Q else K (a.put oj.dst undef) w):nK P ops Q S late (.two i j ri rj) a w:=
 ⟨wpOp_step hoi (λK' hK=>h K' (λa w h1 h2=>hK a w ⟨h1,h2⟩)),wpOp_step hoj (λK' hK=>k K' (λa w h1 h2=>hK a w ⟨h1,h2⟩))⟩
end
theorem QG(a:Act)(d:Nat)(v:Value):(a.put (some d) v).tmps.size=a.tmps.size:=by
 show (a.tmps.setIfInBounds d v).size=_
 simp
theorem aKt(a:Act)(d e:Nat)(v:Value)(h:d<a.tmps.size):(a.put (some d) v).eval (.tmp e)=if d=e then v else a.eval (.tmp e):=by
 show (a.tmps.setIfInBounds d v).getD e undef=if d=e then v else a.tmps.getD e undef
 by_cases he:d=e
 .subst he;rw[if_pos rfl];simp[h]
 .rw[if_neg he];simp[he]
theorem FX(a:Act)(d:Nat)(v:Value)(h:d<a.tmps.size):(a.put (some d) v).eval (.tmp d)=v:=by rw[aKt a d d v h,if_pos rfl]
variable{d e:Nat}
theorem vD(a:Act)(v:Value)(h:d≠e):(a.put (some d) v).eval (.tmp e)=a.eval (.tmp e):=by
 show (a.tmps.setIfInBounds d v).getD e undef=a.tmps.getD e undef
 simp[h]
variable{a:Act}{v:Value}
theorem Eo(h:d≠e:=by decide):(a.put (some d) v).eval (.tmp e)=a.eval (.tmp e):=vD a v h
theorem Es(h:d<a.tmps.size:=by simp only[QG];omega):(a.put (some d) v).eval (.tmp d)=v:=FX a d v h
theorem Et(h:d<a.tmps.size:=by omega):(a.put (some d) v).eval (.tmp d)=v:=FX a d v h
theorem Ex{u:Value}(k:a.eval (.tmp e)=u)(h:d≠e:=by decide):(a.put (some d) v).eval (.tmp e)=u:=(vD a v h).trans k
theorem aI(a:Act)(v:Value):a.eval (.const v)=v:=rfl
theorem PI(a:Act)(d e:Nat)(v u:Value)(h:e<d):(a.put (some d) v).put (some e) u=(a.put (some e) u).put (some d) v:=
 Act.put_comm a v u (λx hx hy=>by cases hx;cases hy;omega)
variable{P:Program}{f:Operand->Value}{o:Oper}
theorem eG(x:Operand)(ho:o.op=.move x)(h:f x=v)(w:World):(execOp f o).run P w=.ok (.value v) w:=by
 subst h;unfold execOp;rw[ho];rfl
theorem mW(x:Operand)(ho:o.op=.assign x)(h:f x=v)(w:World):(execOp f o).run P w=.ok (.value v) w:=by
 subst h;unfold execOp;rw[ho];rfl
theorem aO(c x y:Operand)(ho:o.op=.pick c x y)(hc:f c=.bool true)(hx:f x=v)(w:World):(execOp f o).run P w=.ok (.value v) w:=by
 unfold execOp;rw[ho];dsimp only;rw[hc,hx];go_simp
theorem aZ(c x y:Operand)(ho:o.op=.pick c x y)(hc:f c=.bool false)(hy:f y=v)(w:World):(execOp f o).run P w=.ok (.value v) w:=by
 unfold execOp;rw[ho];dsimp only;rw[hc,hy];go_simp
variable{b:Bool}
theorem zZ(x:Operand)(t:TypeId)(ho:o.op=.unOp .not t x)(hx:f x=.bool b)(w:World):(execOp f o).run P w=.ok (.value (.bool (!b))) w:=by
 unfold execOp;rw[ho];dsimp only;rw[hx];go_simp
variable{Q:Exit->Act->World->Prop}{w:World}
theorem wp_leaves{c:Code}(R:Act->Act->World->Prop)(h:∀a0,a0=a->c.wp P (λe a' w'=>e=.normal/\R a0 a' w') a0 w)(k:∀a' w',R a a' w'->Q .normal a' w'):c.wp P Q a w:=
 Code.wp_mono (λe a' w' ⟨he,hr⟩=>by rw[he];exact k a' w' hr) (h a rfl)
variable{ys:Nat->Option Bool}
theorem cB(hg:o.guard=none):Region.wanted o ys=true:=by simp[Region.wanted,hg]
variable{j:Nat}{oj:Oper}{ops:Array Oper}
theorem eH(hg:o.guard=some (j,b))(hj:ops[j]?=some oj)(hd:oj.dst=some d)(hv:a.eval (.tmp d)=.bool b):Region.wanted o (yielded ops a.tmps)=true:=by
 have e:a.tmps[d]?=some (.bool b):=by
  have h2:a.tmps.getD d undef=.bool b:=hv;rcases Nat.lt_or_ge d a.tmps.size with h|h
  .simp[h] at h2 ⊢;exact h2
  .simp[Array.getElem?_eq_none h] at h2;cases h2
 simp[Region.wanted,hg,yielded,hj,hd,e]
theorem E9{c:Bool}(hg:o.guard=some (j,b))(hj:ops[j]?=some oj)(hd:oj.dst=some d)(hv:a.eval (.tmp d)=.bool c)(hb:c≠b):Region.wanted o (yielded ops a.tmps)=false:=by
 have e:a.tmps[d]?=some (.bool c):=by
  have h2:a.tmps.getD d undef=.bool c:=hv;rcases Nat.lt_or_ge d a.tmps.size with h|h
  .simp[h] at h2 ⊢;exact h2
  .simp[Array.getElem?_eq_none h] at h2;cases h2
 simp[Region.wanted,hg,yielded,hj,hd,e,hb]
structure WpI (P:Program) (o:Oper) (a:Act) (w:World) (K:Act->World->Prop) (Q:Exit->Act->World->Prop):Prop where
 out:Oper.wp P o a w K Q
section
variable {P:Program} {ops:Array Oper} {Q:Exit->Act->World->Prop} {S:World->Prop} {late:Nat->Bool}
structure SeqI (P:Program) (ops:Array Oper) (Q:Exit->Act->World->Prop) (S:World->Prop) (late:Nat->Bool) (l:Plan) (a:Act) (w:World):Prop where
 out:nK P ops Q S late l a w
theorem vV{id:Nat}(l:Plan)(lt:List Nat)(hm:P.follows .mixedOrders=true)(hb:(Region.noSelect ops&&lt.all (λj=>decide (j<ops.size))&&decide (l.len=ops.size)&&lW .any ops (jR lt) l (Array.replicate ops.size false))=true)(h:SeqI P ops Q S (jR lt) l a w.drew):(Code.region id ops true).wp P Q a w:=TC l lt hm hb h.out
theorem wF(h:Q .normal a w):SeqI P ops Q S late .fin a w:=⟨h⟩
variable{i:Nat}{r:Plan}
theorem bP(ho:ops[i]?=some o)(hQ:∀c a w,Q (.panic c) (a.put o.dst v) w->Q (.panic c) a w)(hw:Region.wanted o (yielded ops a.tmps)=true)(hS:S w)(hy:∀w,S w->(execOp a.eval o).run P w=.ok (.value v) w)(h:SeqI P ops Q S late r (a.put o.dst v) w):SeqI P ops Q S late (.rd i r) a w:=⟨aBc ho hQ hw hS hy h.out⟩
theorem uN(ho:ops[i]?=some o)(hw:Region.wanted o (yielded ops a.tmps)=true)(h:∀K:Act->World->Prop,(∀a w,(late i=false->S w)->SeqI P ops Q S late r a w->K a w)->WpI P o a w K Q):SeqI P ops Q S late (.go i r) a w:=
 ⟨aIu ho (λK hK=>by rw[if_pos hw];exact (h K (λa w h1 h2=>hK a w h1 h2.out)).out)⟩
theorem aLI{oi:Oper}{ri rj:Plan}(hoi:ops[i]?=some oi)(hoj:ops[j]?=some oj)(hwi:Region.wanted oi (yielded ops a.tmps)=true)(hwj:Region.wanted oj (yielded ops a.tmps)=true)(h:∀K:Act->World->Prop,(∀a w,(late i=false->S w)->SeqI P ops Q S late ri a w->K a w)->WpI P oi a w K Q)(k:∀K:Act->World->Prop,(∀a w,(late j=false->S w)->SeqI P ops Q S late rj a w->K a w)->WpI P oj a w K Q):SeqI P ops Q S late (.two i j ri rj) a w:=
 ⟨aEk hoi hoj (λK hK=>by rw[if_pos hwi];exact (h K (λa w h1 h2=>hK a w h1 h2.out)).out) (λK hK=>by rw[if_pos hwj];exact (k K (λa w h1 h2=>hK a w h1 h2.out)).out)⟩
variable{K:Act->World->Prop}{R:Ending->World->Prop}
theorem aX(w:World)(n:Nat)(x:Operand)(T:Array TypeId)(ho:o.op=.call { callee:=.value (.func n),args:=#[x],argTypes:=T })(hx:a.eval x=v)(hf:(callFunc n #[v]).run P w=.ok (.enter n #[v]) w)(hc:Calls P n #[v] w R)(h:∀e w',R e w'->∃r,e=.returned r/\K (a.put o.dst r) w'):WpI P o a w K Q:=by
 refine⟨?_⟩;have e:(execOp a.eval o).run P w=.ok (.enter n #[v]) w:=by
  unfold execOp;rw[ho];simp only[resolve,invoke,Sem.run_bind,List.map_toArray,List.map_cons,List.map_nil,hx];go_simp
 unfold Oper.wp;rw[e,Oper.upon_enter];refine hc.mono ?_;intro e w' hr;obtain⟨r,rfl,hk⟩:=h e w' hr;exact hk
theorem dL(w:World)(n:Nat)(x y:Operand)(T:Array TypeId)(ho:o.op=.call { callee:=.value (.func n),args:=#[x,y],argTypes:=T }){u:Value}(hx:a.eval x=v)(hy:a.eval y=u)(hf:(callFunc n #[v,u]).run P w=.ok (.enter n #[v,u]) w)(hc:Calls P n #[v,u] w R)(h:∀e w',R e w'->∃r,e=.returned r/\K (a.put o.dst r) w'):WpI P o a w K Q:=by
 refine⟨?_⟩;have e:(execOp a.eval o).run P w=.ok (.enter n #[v,u]) w:=by
  unfold execOp;rw[ho];simp only[resolve,invoke,Sem.run_bind,List.map_toArray,List.map_cons,List.map_nil,hx,hy];go_simp
 unfold Oper.wp;rw[e,Oper.upon_enter];refine hc.mono ?_;intro e w' hr;obtain⟨r,rfl,hk⟩:=h e w' hr;exact hk
theorem BU(w:World)(n:Nat)(T:Array TypeId)(ho:o.op=.call { callee:=.value (.func n),args:=#[],argTypes:=T })(hf:(callFunc n #[]).run P w=.ok (.enter n #[]) w)(hc:Calls P n #[] w R)(h:∀e w',R e w'->∃r,e=.returned r/\K (a.put o.dst r) w'):WpI P o a w K Q:=by
 refine⟨?_⟩;have e:(execOp a.eval o).run P w=.ok (.enter n #[]) w:=by
  unfold execOp;rw[ho];simp only[resolve,invoke,Sem.run_bind,List.map_toArray,List.map_nil];go_simp
 unfold Oper.wp;rw[e,Oper.upon_enter];refine hc.mono ?_;intro e w' hr;obtain⟨r,rfl,hk⟩:=h e w' hr;exact hk
end
end Go.Proofs.YthimcecbgpamdaaGreatDoor
