import Derived.Test.YthimcecbgpamdaaGreatNear71
namespace Go.Proofs.YthimcecbgpamdaaGreat
open Go.RowKit
theorem aGE:(Tryz.prog.info? 4).map (λi=>(i.zero,i.size,i.bytes))=some (some (.bool false),1,1):=Yl
variable{Q:Exit->Act->World->Prop}
theorem SA(w:World){o:Oper}{a:Act}{K:Act->World->Prop}(s x:Operand)(ho:o.op=.call { callee:=.builtin .append,args:=#[s,x],argTypes:=#[33,33] })(B:Nat)(hB:B<=w.heap.size)(v:Value)(n:Nat)(xs:List Value)(hs:a.eval s=v)(hown:w.ownsRow B 4 1 v n xs)(vo:Option Addr)(lv cv:Nat)(f:Nat->Value)(hx:a.eval x=.slice vo lv cv)(har:Sr w vo lv cv f)(h1:∀i,i<lv->(f i).oneCell'=true)(hl:n+lv<=140737488355328)(h:∀v' w',w'.ownsRow B 4 1 v' (n+lv) (xs++rowV f lv)->Below B w w'->K (a.put o.dst v') w'):o.wp Tryz.prog a w K Q:=by
 obtain⟨i0,hi,hz0,hz1,hz2⟩:=info_parts aGE;rcases har with ⟨rfl,rfl,rfl⟩|⟨y,rfl,hc⟩
 .have hrun:=run_append_owned_none (P:=Tryz.prog) (w:=w) B 33 o.type 4 i0 1 Tryz.underlying33 hi v n xs hown;have hh:=h v w (by simpa [rowV] using hown) (Below.refl _ _);unfold Oper.wp execOp;simp only[ho,resolve,invoke,builtin,Sem.run_bind,Sem.run_pure,Result.andThen_ok,List.map_toArray,List.map_cons,List.map_nil,hs,hx,hrun];exact hh
 .refine wp_append_own (P:=Tryz.prog) w s x 33 ho B 4 i0 (.bool false) 1 1 Tryz.underlying33 hi hz0 hz1 hz2 rfl Yc v n xs hs hown y lv cv (rowV f lv) hx (wR f lv) ?_ (nK f lv h1) Ym Yo hB ?_
  .intro j u hj;rcases Nat.lt_or_ge j lv with h2|h2
   .rw[gY f h2] at hj;cases hj;exact hc j h2
   .rw[iN f h2] at hj;cases hj
  .intro v' w2 ho2 hgr hnil;exact h v' w2 ho2 (Z5 hown hgr (Below.refl _ _) hB)
end Go.Proofs.YthimcecbgpamdaaGreat
