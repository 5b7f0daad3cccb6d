import Derived.Test.YthimcecbgpamdaaGreatDoorNear159
namespace Go.Proofs.YthimcecbgpamdaaGreatDoor
open Go.RowKit
class InfK (P:Program) (t:TypeId) (e:outParam TypeId) (size bytes:outParam Nat):Prop where
 sl:P.underlying t=some (.slice e)
 inf:∃i z,P.info? e=some i/\i.zero=some z/\i.size=size/\i.bytes=bytes/\z.cells.size=size
 pos:0<size
def TM(w:World)(size:Nat)(x:Value)(m:Nat)(news:List Value):Prop:=(x=.slice none 0 0/\m=0/\news=[])\/∃ad c,x=.slice (some ad) m c/\news.length=m*size/\∀j u,news[j]?=some u->w.cell? (ad.add j)=some u
section
variable {P:Program} {t e:TypeId} {size bytes:Nat} {w:World}
variable{B n:Nat}{v:Value}{xs:List Value}
theorem X3(h:w.ownsRow B e size v n xs):TM w size v n xs:=by
 have hl:=h.1;rcases h.2 with ⟨rfl,rfl⟩|⟨g,cap,cur,rfl,hb,hg,hc,hm,hsz,hcur⟩
 .exact Or.inl ⟨rfl,rfl,by simpa using hl⟩
 .exact Or.inr ⟨⟨g,0,none⟩,cap,rfl,hl,λj u hj=>h.cells (g:=g) rfl j u hj⟩
variable{news:List Value}
theorem aET(I:InfK P t e size bytes)(hB:B<=w.heap.size)(ty:TypeId){x:Value}{m:Nat}(hown:w.ownsRow B e size v n xs)(hx:TM w size x m news)(h1:∀u∈news,u.oneCell'=true)(h63:n+m<=maxLen)(hby:(n+m)*bytes<=140737488355328):∃v' w',(Builtin.append_ #[t,t] ty #[v,x]).run P w=.ok v' w'/\w'.ownsRow B e size v' (n+m) (xs++news)/\w.grownBy w' v.ownBlock/\∀k,v'.ownBlock=some k->v.ownBlock=some k\/w.heap.size<=k:=by
 obtain⟨i0,z,hi,hz0,hz1,hz2,hz3⟩:=I.inf;rcases hx with ⟨rfl,rfl,rfl⟩|⟨ad,c,rfl,hl,hnews⟩
 .have hrun:=run_append_owned_none (P:=P) (w:=w) B t ty e i0 size I.sl hi v n xs hown;exact⟨v,w,hrun,by simpa using hown,⟨rfl,rfl,rfl,Xr _,λ_ _ _=>rfl⟩,λk hk=>Or.inl hk⟩
 .rcases hown.2 with ⟨rfl,rfl⟩|⟨r,cap,cur,rfl,hb,hg,hc,hm,hsz,hcur⟩
  .obtain rfl:xs=[]:=by simpa using hown.1
   obtain⟨v',w2,hrun,ho2,hgr,_⟩:=run_append_own (P:=P) w w.heap.size t ty e i0 z size bytes I.sl hi hz0 hz1 hz2 hz3 I.pos (.slice none 0 0) 0 [] (World.ownsRow_nil _ _ _ _) ad m c news hl hnews h1 h63 hby (Xr _);exact⟨v',w2,hrun,dJ ho2 hB,hgr,λk hk=>Or.inr (ho2.lt k hk).1⟩
  .by_cases hfit:n+m<=cap
   .obtain⟨w2,hrun,ho2,hgr⟩:=run_append_fits (P:=P) w B t ty e i0 size I.sl hi hz1 r n cap xs hown ad m c news hl hnews h1 hfit;exact⟨_,w2,hrun,ho2,hgr,λk hk=>Or.inl hk⟩
   .obtain⟨v',w2,hrun,ho2,hgr⟩:=run_append_arg_grows (P:=P) w t ty e i0 z size bytes I.sl hi hz0 hz1 hz2 hz3 I.pos ⟨r,0,none⟩ n cap xs hown.1 (λj u hj=>hown.cells (g:=r) rfl j u hj) ad m c news hl hnews Yo h63 hby;exact⟨v',w2,hrun,dJ ho2 hB,⟨hgr.os,hgr.tape,hgr.output,hgr.size,λk hk _=>hgr.block k hk (by simp)⟩,λk hk=>Or.inr (ho2.lt k hk).1⟩
variable {o:Oper} {a:Act} {K:Act->World->Prop} {Q:Exit->Act->World->Prop}
theorem F5{s x:Operand}(ho:o.op=.call { callee:=.builtin .append,args:=#[s,x],argTypes:=#[t,t] })(I:InfK P t e size bytes)(hB:B<=w.heap.size){u:Value}{m:Nat}(hs:a.eval s=v)(hx:a.eval x=u)(hown:w.ownsRow B e size v n xs)(hr:TM w size u m news)(h1:∀u∈news,u.oneCell'=true)(h63:n+m<=maxLen)(hby:(n+m)*bytes<=140737488355328)(h:∀v' w',w'.ownsRow B e size v' (n+m) (xs++news)->w.grownBy w' v.ownBlock->(∀k,v'.ownBlock=some k->v.ownBlock=some k\/w.heap.size<=k)->K (a.put o.dst v') w'):WpI P o a w K Q:=by
 obtain⟨v',w',hrun,h2,h3,h4⟩:=aET (P:=P) I hB o.type hown hr h1 h63 hby;refine⟨?_⟩;unfold Oper.wp execOp;simp only[ho,resolve,invoke,builtin,Sem.run_bind,Sem.run_pure,Result.andThen_ok,List.map_toArray,List.map_cons,List.map_nil,hs,hx,hrun];exact h v' w' h2 h3 h4
end
def It.and(x y:It):It:=⟨λw=>x.p w/\y.p w,λk=>x.foot k\/y.foot k,λh e=>⟨x.ok h.1 (λk h1 h2=>e k h1 (Or.inl h2)),y.ok h.2 (λk h1 h2=>e k h1 (Or.inr h2))⟩,λh e=>by
 rcases e with e|e
 .exact x.lt h.1 e
 .exact y.lt h.2 e⟩
variable{w:World}
theorem Cx.merge{w0:World}{x y:It}{l:List It}(H:Cx w0 w (x::y::l)):Cx w0 w (x.and y::l):=by
 obtain⟨d1,d2⟩:=List.pairwise_cons.1 H.dis;obtain⟨d3,d4⟩:=List.pairwise_cons.1 d2;refine⟨H.bel,λz hz=>?_,λz hz j hj=>?_,List.pairwise_cons.2 ⟨λz hz j h1 h2=>?_,d4⟩⟩
 .rcases List.mem_cons.1 hz with rfl|hz
  .exact⟨H.o0,H.o1⟩
  .exact H.it z (List.mem_cons_of_mem _ (List.mem_cons_of_mem _ hz))
 .rcases List.mem_cons.1 hz with rfl|hz
  .rcases hj with hj|hj
   .exact H.up x List.mem_cons_self j hj
   .exact H.up y (List.mem_cons_of_mem _ List.mem_cons_self) j hj
  .exact H.up z (List.mem_cons_of_mem _ (List.mem_cons_of_mem _ hz)) j hj
 .rcases h1 with h1|h1
  .exact d1 z (List.mem_cons_of_mem _ hz) j h1 h2
  .exact d3 z hz j h1 h2
section
variable {P:Program} {ops:Array Oper} {Q:Exit->Act->World->Prop} {A:Act} {L:List (Nat×Value)} {w0 w:World} {rest:List Oper} {o:Oper} {d:Nat} {l:List It} {x0 x1 x2 x3 x4 x5:It} {t e:TypeId} {size bytes n m:Nat} {v u:Value} {xs news:List Value} {s x:Operand}
theorem aEm{F:It->List It}(H:AtK w0 w (fF w0.heap.size e size v n xs) F)(hr:TM w size u m news)(h1:∀u∈news,u.oneCell'=true)(h63:n+m<=maxLen)(hby:(n+m)*bytes<=140737488355328)(h:∀v' w',Cx w0 w' (F (fF w0.heap.size e size v' (n+m) (xs++news)))->LstI P ops Q rest (aL A ((d,v')::L)) w')(ho:o.op=.call { callee:=.builtin .append,args:=#[s,x],argTypes:=#[t,t] }:=by rfl)(I:InfK P t e size bytes:=by infer_instance)(hs:(aL A L).eval s=v:=by exact Qv)(hx:(aL A L).eval x=u:=by exact Qv)(hd:o.dst=some d:=by rfl)(hw:Region.wanted o (yielded ops (aL A L).tmps)=true:=by exact cB rfl):LstI P ops Q (o::rest) (aL A L) w:=
 bJ hd hw (λ_ hK=>F5 ho I H.size hs hx H.o hr h1 h63 hby (λv' w' h2 h3 h4=>hK _ _ (h v' w' (H.put ⟨h3.os,h3.tape,h3.output,h3.size,λj h5 h6=>h3.block j h5 (λe=>h6 e.symm),h2,h4⟩))))
end
section
variable {f:Operand->Value} {o:Oper}
theorem rV(x:Operand)(ho:o.op=.extract x 0){u v:Value}(hx:f x=.tuple #[u,v])(w:World):(execOp f o).run Tryz.prog w=.ok (.value u) w:=Ykq
theorem rW(x:Operand)(ho:o.op=.extract x 1){u v:Value}(hx:f x=.tuple #[u,v])(w:World):(execOp f o).run Tryz.prog w=.ok (.value v) w:=Ykq
variable{a:Addr}
theorem fQ(x y:Operand)(ho:o.op=.indexAddr 72 x y){n cap i:Nat}{z:Int}(hx:f x=.slice (some a) n cap)(hy:f y=.int .i64 z)(hz:z=(i:Int))(hi:i<n)(w:World):(execOp f o).run Tryz.prog w=.ok (.value (.pointer (some (a.add i)))) w:=by
 subst hz;have hi2:(i:Int)<n:=Yo;unfold execOp;rw[ho];dsimp only;rw[hx,hy];go_simp
theorem fT(x:Operand)(ho:o.op=.load 3 x){v:Int}(hx:f x=.pointer (some a))(hc:w.cell? a=some (.int .i64 v)):(execOp f o).run Tryz.prog w=.ok (.value (.int .i64 v)) w:=Yg
theorem BH(x:Operand)(ho:o.op=.slice 34 x none none none){b off:Nat}(hx:f x=.pointer (some ⟨b,off,none⟩))(w:World):(execOp f o).run Tryz.prog w=.ok (.value (.slice (some ⟨b,off,none⟩) 4 4)) w:=Yg
end
variable{c:Lm}
theorem vF{id fr s kind many:Int}{L:List Lm}(h:fL id fr L s kind many=some c):c∈L/\jN id fr s kind many c.m=true:=by
 unfold fL at h;have h2:=List.find?_some h;exact⟨List.mem_of_find?_eq_some h,h2⟩
theorem uO{id fr s kind many:Int}{m:Ms}(h:jN id fr s kind many m=true):(m.L.length:Int)=many:=by
 unfold jN at h;simp only[Bool.and_eq_true,decide_eq_true_eq] at h;exact h.2
theorem LvRd.at(h:LvRd w c)(hl:0<c.m.L.length):∃y,c.ao=some y/\∀i,i<c.m.L.length->w.cell? (y.add i)=some (.int .i64 (gL c.m.L i)):=by
 rcases h.1 with ⟨_,h0,_⟩|⟨y,e,hy⟩
 .omega
 .exact⟨y,e,λi hi=>hy i hi⟩
theorem he_row{b:Nat}{n:Nd}{v:Value}(h:Vh 43 w b 74 74 (ndF n v)):Sr w (some ⟨b,0+51,none⟩) 4 4 (iF n.he):=by
 refine Or.inr ⟨_,rfl,λi hi=>?_⟩;rw[add_at];have:=h.cell (i:=0+51+i) Yo;rw[this]
 match i,hi with
 |0,_=>rfl
 |1,_=>rfl
 |2,_=>rfl
 |3,_=>rfl
theorem jJ:Many Tryz.prog 31 7:=Many.of _ Tryz.underlying31 rfl Yl
theorem dM:Many Tryz.prog 36 12:=Many.of _ Tryz.underlying36 rfl Yl
theorem rZ(g:Nat->Value)(h:Nat->Value):∀j,j<7->stP g 0 7 h j=h j:=λj hj=>by
 have:=mF g (o:=0) (n:=7) h hj
 rwa [Nat.zero_add] at this
theorem wP(w:World):(zeroValue 31).run Tryz.prog w=.ok (aP (dK St.nil') 0 7) w:=Yl
section
variable {f:Operand->Value} {o:Oper}
variable{u v:Int}
theorem PW(x y:Operand)(ho:o.op=.binOp .mul 3 x y 3)(hx:f x=.int .i64 u)(hy:f y=.int .i64 v)(w:World):(execOp f o).run Tryz.prog w=.ok (.value (.int .i64 (wrap64 (u*v)))) w:=by
 unfold execOp;rw[ho];dsimp only;rw[hx,hy];go_simp
 rw[IntKind.wrap_i64];unfold wrap64;omega
theorem aEF(x y:Operand)(ho:o.op=.binOp .add 3 x y 3)(hx:f x=.int .i64 u)(hy:f y=.int .i64 v)(w:World):(execOp f o).run Tryz.prog w=.ok (.value (.int .i64 (wrap64 (u+v)))) w:=by
 unfold execOp;rw[ho];dsimp only;rw[hx,hy];go_simp
 rw[IntKind.wrap_i64];unfold wrap64;omega
theorem BI(x y:Operand)(ho:o.op=.binOp .mul 3 x y 3)(hx:f x=.int .i64 u)(hy:f y=.int .i64 v)(h1: -9223372036854775808<=u*v)(h2:u*v<=9223372036854775807)(w:World):(execOp f o).run Tryz.prog w=.ok (.value (.int .i64 (u*v))) w:=by
 rw[PW x y ho hx hy w];have:wrap64 (u*v)=u*v:=by unfold wrap64;omega
 rw[this]
theorem fU{b:Bool}(x y:Operand)(ho:o.op=.binOp .geq 3 x y 3)(hx:f x=.int .i64 u)(hy:f y=.int .i64 v)(hb:decide (v<=u)=b)(w:World):(execOp f o).run Tryz.prog w=.ok (.value (.bool b)) w:=by
 subst hb;unfold execOp;rw[ho];dsimp only;rw[hx,hy];go_simp
theorem cZ{P:Program}(ty:TypeId)(x:Operand)(ho:o.op=.load ty x){b k n N cap:Nat}{t:TypeId}{g h:Nat->Value}(T:Many P ty n)(hx:f x=.pointer (some ⟨b,k,none⟩))(hm:Vh t w b N cap g)(hn:k+n<=N)(he:∀j,j<n->g (k+j)=h j):(execOp f o).run P w=.ok (.value (aP h 0 n)) w:=by
 rw[aV ty x ho T hx hm hn];have:aP g k n=aP h 0 n:=by
  unfold aP
  congr 1
  congr 1
  apply List.map_congr_left;intro j hj;rw[he j (by simpa using hj),Nat.zero_add]
 rw[this]
end
variable{Q:Exit->Act->World->Prop}
theorem aJT(w:World){o:Oper}{a:Act}{K:Act->World->Prop}(x0 x1 x2 x3 x4 x5 x6:Operand)(ho:o.op=.buildSlice 72 7 #[(0,x0),(1,x1),(2,x2),(3,x3),(4,x4),(5,x5),(6,x6)]){g:Nat->Int}(h0:a.eval x0=.int .i64 (g 0))(h1:a.eval x1=.int .i64 (g 1))(h2:a.eval x2=.int .i64 (g 2))(h3:a.eval x3=.int .i64 (g 3))(h4:a.eval x4=.int .i64 (g 4))(h5:a.eval x5=.int .i64 (g 5))(h6:a.eval x6=.int .i64 (g 6))(h:∀w',Vh 3 w' w.heap.size 7 7 (λi=>iV (g i))->Below w.heap.size w w'->w'.heap.size=w.heap.size+1->K (a.put o.dst (.slice (some ⟨w.heap.size,0,none⟩) 7 7)) w'):WpI Tryz.prog o a w K Q:=by
 have hh:=h (w.alloc (.cells #[.int .i64 (g 0),.int .i64 (g 1),.int .i64 (g 2),.int .i64 (g 3),.int .i64 (g 4),.int .i64 (g 5),.int .i64 (g 6)] 3)) (Vh.of_row (λi=>iV (g i)) 7 Yc (by show (w.heap.push _)[w.heap.size]?=_;rw[Array.getElem?_push_size];rfl)) (bK _ _) (dG _ _);have e:(execOp a.eval o).run Tryz.prog w=.ok (.value (.slice (some ⟨w.heap.size,0,none⟩) 7 7)) (w.alloc (.cells #[.int .i64 (g 0),.int .i64 (g 1),.int .i64 (g 2),.int .i64 (g 3),.int .i64 (g 4),.int .i64 (g 5),.int .i64 (g 6)] 3)):=by
  generalize a.eval=f at h0 h1 h2 h3 h4 h5 h6;unfold execOp;rw[ho];simp only[List.map_toArray,List.map_cons,List.map_nil];rw[h0,h1,h2,h3,h4,h5,h6];go_simp
 refine⟨?_⟩;unfold Oper.wp;rw[e];exact hh
theorem aLi(n:Nd)(v:Value){i:Nat}(hi:i<4):ndF n v (0+27+0+i*1)=.bool (n.rl.I i):=by grind [ndF,dF]
theorem NK(l:List Int):l.map iV=rowV (iF (gL l)) l.length:=by
 apply List.ext_getElem?;intro i;rw[List.getElem?_map];rcases Nat.lt_or_ge i l.length with h|h
 .rw[iE _ h,List.getElem?_eq_getElem h];unfold iF gL;rw[List.getD_eq_getElem?_getD,List.getElem?_eq_getElem h];rfl
 .rw[iP _ h,List.getElem?_eq_none h];rfl
theorem dU(s:St):∀j,j<7->(dK s j).oneCell'=true:=by
 intro j _;unfold dK iV
 repeat' split
 all_goals rfl
end Go.Proofs.YthimcecbgpamdaaGreatDoor
