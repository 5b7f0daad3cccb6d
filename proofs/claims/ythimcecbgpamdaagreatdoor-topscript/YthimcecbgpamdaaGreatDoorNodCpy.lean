import Derived.Test.YthimcecbgpamdaaGreatDoorNear204
namespace Go.Proofs.YthimcecbgpamdaaGreatDoor
open Go.RowKit
theorem aLK:(Tryz.prog.info? 3).map (·.size)=some 1:=Yl
variable{K:Act->World->Prop}{Q:Exit->Act->World->Prop}{a:Act}{o:Oper}
theorem QR(w:World)(d s:Operand)(ho:o.op=.call { callee:=.builtin .copy,args:=#[d,s],argTypes:=#[72,72] }){b k m N cap cv l:Nat}{t:TypeId}{g f:Nat->Value}{y:Addr}(hd:a.eval d=.slice (some ⟨b,k,none⟩) m m)(hv:Vh t w b N cap g)(hn:k+m<=N)(hs:a.eval s=.slice (some y) l cv)(hl:l=m)(hc:∀i,i<m->w.cell? (y.add i)=some (f i))(h1:∀i,i<m->(f i).oneCell'=true)(h:∀w',Vh t w' b N cap (stP g k m f)->Kept b w w'->w'.heap.size=w.heap.size->K (a.put o.dst (goInt m)) w'):WpI Tryz.prog o a w K Q:=by
 subst hl;obtain⟨w',e,hv',hk,hz⟩:=qX (P:=Tryz.prog) b k t N cap f l 0 g w hv Yo (λj hj=>by rw[Nat.zero_add];exact h1 j hj);have hh:=h w' (hv'.congr (λj _=>by rw[Nat.add_zero];congr 1;funext i;rw[Nat.zero_add])) hk hz;have hld:=run_loadCells (P:=Tryz.prog) w y l f hc;have e2:(storeCells ⟨b,k,none⟩ ((List.range l).map f)).run Tryz.prog w=.ok () w':=by
  refine Eq.trans ?_ e
  congr 2
  refine List.map_congr_left (λj _=>?_);rw[Nat.zero_add]
 have hrun:(Builtin.copy_ #[72,72] o.type #[.slice (some ⟨b,k,none⟩) l l,.slice (some y) l cv]).run Tryz.prog w=.ok (goInt l) w':=by
  simp only[Builtin.copy_,run_underlying Tryz.underlying72,Builtin.lenOf,Builtin.firstCells,Nat.min_self,Sem.run_bind,Sem.run_pure,Result.andThen_ok,iZ.size,Nat.mul_one,hld,e2,List.getElem?_toArray,List.getElem?_cons_zero,List.getElem?_cons_succ]
 refine⟨?_⟩;unfold Oper.wp execOp;simp only[ho,resolve,invoke,builtin,Sem.run_bind,Sem.run_pure,Result.andThen_ok,List.map_toArray,List.map_cons,List.map_nil,hd,hs,hrun];exact hh
variable{ad:Option Addr}
theorem aFU(w:World)(d s:Operand)(ho:o.op=.call { callee:=.builtin .copy,args:=#[d,s],argTypes:=#[72,72] }){m c:Nat}(hd:a.eval d=.slice ad m c)(hs:a.eval s=.slice none 0 0)(h:K (a.put o.dst (goInt 0)) w):WpI Tryz.prog o a w K Q:=by
 have hrun:=run_copy_none (P:=Tryz.prog) w 72 72 o.type 3 ad none m c 0 0 Tryz.underlying72 aLK (by simp);refine⟨?_⟩;unfold Oper.wp execOp;simp only[ho,resolve,invoke,builtin,Sem.run_bind,Sem.run_pure,Result.andThen_ok,List.map_toArray,List.map_cons,List.map_nil,hd,hs,hrun];exact h
end Go.Proofs.YthimcecbgpamdaaGreatDoor
