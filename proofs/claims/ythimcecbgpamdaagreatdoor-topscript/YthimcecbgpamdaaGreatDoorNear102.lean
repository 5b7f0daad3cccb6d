import Derived.Test.YthimcecbgpamdaaGreatDoorNear204
namespace Go.Proofs.YthimcecbgpamdaaGreatDoor
open Go.RowKit
section
variable {f:Operand->Value} {o:Oper}
theorem aBs(ho:o.op=.build 43 #[])(w:World):(execOp f o).run Tryz.prog w=.ok (.value (aP (ndF dW (.slice none 0 0)) 0 74)) w:=by
 unfold execOp;rw[ho];go_simp
 kernel_rfl
theorem PS(a b c:Operand)(ho:o.op=.build 43 #[(0,a),(2,b),(4,c)]){id:Int}{t:Tn}{r:Rl}(h0:f a=.int .i64 id)(h1:f b=aP (kW t) 0 4)(h2:f c=gK r)(w:World):(execOp f o).run Tryz.prog w=.ok (.value (aP (ndF { dW with id:=id,tn:=t,rl:=r } (.slice none 0 0)) 0 74)) w:=by
 have h1':f b=.agg #[.int .i64 t.Dt,.int .i64 t.Q,.int .i64 t.R,.int .i64 t.G]:=h1;unfold gK at h2;unfold execOp;rw[ho];simp only[List.map_toArray,List.map_cons,List.map_nil];rw[h0,h1',h2];clear h0 h1 h1' h2 ho;change _=_
 kernel_rfl
end
theorem aAI:Many Tryz.prog 27 4:=Many.of _ Tryz.underlying27 rfl Yl
theorem aLj(n:Nd)(v:Value):∀j,j<4->ndF n v (0+2+j)=kW n.tn j:=by
 intro j hj;unfold ndF;rw[if_neg Yo,if_pos Yo,show 0+2+j-2=j by omega]
def J7(x k:Nat):St:=if k<x then St.beg0 else St.nil'
theorem MG:J7 0=dW.ax:=by funext k;unfold J7;rw[if_neg Yo];rfl
theorem MF{x:Nat}:(λk=>if k=x then St.beg0 else J7 x k)=J7 (x+1):=by grind [J7]
def IQ(id:Int)(t:Tn)(ax:Nat->St):Nd:=⟨id,0,t,ax,beginR,λ_ _=>0,λ_=>0,λ_ _=>0,λ_=>0,0,0,false,[]⟩
theorem MH{id:Int}{t:Tn}{v:Value}:ndF (IQ id t (J7 3)) v=ndF (IQ id t (λ_=>St.beg0)) v:=by unfold ndF IQ J7;grind
def aNc(fn:Nat):Prop:=∀(id:Int) (t:Tn) (w:World),R64 id->t.Ok->
 Calls Tryz.prog fn #[.int .i64 id,aP (kW t) 0 4] w λe w'=>∃a' c',e=.returned (.tuple #[lS (jH id t) (.slice a' (jH id t).vA.length c'),.int .i64 (MB id)])/\nU w.heap.size w' (jH id t) a' c'/\Below w.heap.size w w'
end Go.Proofs.YthimcecbgpamdaaGreatDoor
namespace Go.Proofs.YthimcecbgpamdaaGreatDoor
open Go
variable{Q:Exit->Act->World->Prop}{R:Ending->World->Prop}
theorem BV(w:World){P:Program}{o:Oper}{a:Act}{K:Act->World->Prop}(n:Nat)(x y z u v:Operand)(T:Array TypeId)(ho:o.op=.call { callee:=.value (.func n),args:=#[x,y,z,u,v],argTypes:=T }){p q r s t:Value}(hx:a.eval x=p)(hy:a.eval y=q)(hz:a.eval z=r)(hu:a.eval u=s)(hv:a.eval v=t)(hf:(callFunc n #[p,q,r,s,t]).run P w=.ok (.enter n #[p,q,r,s,t]) w)(hc:Calls P n #[p,q,r,s,t] w R)(h:∀e w',R e w'->∃r,e=.returned r/\K (a.put o.dst r) w'):WpI P o a w K Q:=by
 refine⟨?_⟩;have e:(execOp a.eval o).run P w=.ok (.enter n #[p,q,r,s,t]) w:=by
  unfold execOp;rw[ho];have hv2:a.eval (Operand.func n)=.func (.func n) #[] #[]:=rfl;simp only[resolve,invoke,Sem.run_bind,List.map_toArray,List.map_cons,List.map_nil,hx,hy,hz,hu,hv,hv2];go_simp
 unfold Oper.wp;rw[e,Oper.upon_enter];refine hc.mono ?_;intro e w' hr;obtain⟨r,rfl,hk⟩:=h e w' hr;exact hk
end Go.Proofs.YthimcecbgpamdaaGreatDoor
