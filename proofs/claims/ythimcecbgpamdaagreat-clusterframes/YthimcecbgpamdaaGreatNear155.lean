import Derived.Test.YthimcecbgpamdaaGreatNear111
set_option maxHeartbeats 4000000
namespace Go.Proofs.YthimcecbgpamdaaGreat
open Go.ChangeShapes Go.WideShapes Go.ChangeAt Go.RowKit Go.Joins
set_option maxRecDepth 100000
instance:Inhabited Lj:=⟨⟨⟨0,0,0,λ_=>0⟩,none,0⟩⟩
instance:Inhabited Li:=⟨⟨λ_ _=>0,0,[],none,0⟩⟩
theorem VO:Tryz.prog.cellsOf 78=3:=Yl
theorem aHB:Tryz.prog.bytesOf 78=40:=Yl
theorem aHP:Tryz.prog.cellsOf 43=14:=Yl
theorem aHJ:Tryz.prog.cellsOf 76=1:=Yl
theorem aFC:Tryz.prog.cellsOf 41=1:=Yl
section
variable {H:Type} {enc:TypeId×Value->H} {w:World} {base:Nat} {held:Bool}
variable{x:DataW H×List MemPlace}
theorem aDs{t e:TypeId}{s bytes:Nat}{α:Type}[Inhabited α](F:α->Nat->Value)(R:α->Prop)(ht:Tryz.prog.underlying t=some (.slice e))(hce:Tryz.prog.cellsOf e=s)(hbe:Tryz.prog.bytesOf e=bytes)(hs:0<s)(op:∀fuel cs x,DataW.trod enc Tryz.prog w base (λ_=>true) held fuel e cs=some x->(∀n∈x.1.weights Tryz.prog e,n<=reachBytes)->∃c,cs.length=s/\(∀j,j<s->cs[j]?=some (F c j))/\R c){fuel:Nat}{v:Value}(h:DataW.trod enc Tryz.prog w base (λ_=>true) held fuel t [v]=some x)(hsz:∀n∈x.1.weights Tryz.prog t,n<=reachBytes):∃(mo:Option Addr) (mc:Nat) (L:List α),v=.slice mo L.length mc/\RdS F s w mo L/\(∀c,c∈L->R c)/\L.length*bytes<=reachBytes/\L.length<=mc:=by
 rcases Go.Deep.open_slice ht h with ⟨hcs,_⟩|⟨a,len,c,m,n,D,Pl,hcs,_,hl,hm,hmm,ex,hx⟩
 .simp at hcs;exact⟨none,0,[],hcs,λh=>absurd h (by simp),λ_ h=>absurd h (by simp),by show 0*_<=_;omega,Xr _⟩
 .simp at hcs;subst hcs;simp only[if_true] at hmm;subst hmm;have ex1:x.1=.slice ((List.range len).map D) ((List.range (m-len)).map λj=>D (len+j)):=congrArg Prod.fst ex;have hw:∀i,i<len->∀k∈(D i).weights Tryz.prog e,k<=reachBytes:=λi hi k hk=>hsz k (by
   rw[ex1];simp only[DataW.weights,ht];exact List.mem_cons_of_mem _ (List.mem_append.2 (Or.inl (xY (List.mem_map.2 ⟨i,List.mem_range.2 hi,rfl⟩) k hk))))
  have hb:m*bytes<=reachBytes:=hsz _ (by
   rw[ex1];simp only[DataW.weights,ht,hbe];refine List.mem_cons.2 (Or.inl ?_);rw[List.length_map,List.length_map,List.length_range,List.length_range]
   congr 1
   omega)
  obtain⟨G,hG⟩:=Go.Deep.choose_lt (α:=α) (n:=len) (p:=λi c=>(∀k,k<s->w.cell? ((a.add (i*s)).add k)=some (F c k))/\R c) (λi hi=>by
   obtain⟨cs',h1,h2⟩:=hx i Yo;rw[hce] at h1;obtain⟨cc,e,h3,h4⟩:=op _ _ _ h2 (hw i hi);refine⟨cc,λk hk=>?_,h4⟩;obtain⟨_,_,hcc⟩:=World.cells?_some h1;rw[hcc k hk,h3 k hk])
  have el:((List.range len).map G).length=len:=by simp
  have hat:∀i c,((List.range len).map G)[i]?=some c->i<len/\c=G i:=λi c hi=>by
   have hlt:i<len:=by have:=(List.getElem?_eq_some_iff.1 hi).1;rw[el] at this;exact this
   rw[List.getElem?_map,List.getElem?_range hlt] at hi;exact⟨hlt,(Option.some.inj hi).symm⟩
  refine⟨some a,m,(List.range len).map G,by rw[el],λhl0=>?_,λc hc=>?_,by rw[el];exact Nat.le_trans (Nat.mul_le_mul_right _ hl) hb,by rw[el];exact hl⟩
  .rw[el] at hl0;obtain⟨b,o,spot⟩:=a;have hn:spot=none:=by
    have h0:w.cell? (((⟨b,o,spot⟩:Addr).add (0*s)).add 0)=some (F (G 0) 0):=(hG 0 hl0).1 0 hs
    simpa [Addr.add] using World.cell?_spot h0
   subst hn;refine⟨b,o,rfl,λi c hi k hk=>?_⟩;obtain⟨hlt,rfl⟩:=hat i c hi;have:=(hG i hlt).1 k hk;rw[Addr.add_lit,Addr.add_lit] at this;exact this
  .obtain⟨i,hi⟩:=List.getElem?_of_mem hc;obtain⟨hlt,rfl⟩:=hat i c hi;exact (hG i hlt).2
theorem aGG(fuel:Nat)(cs:List Value)(x:DataW H×List MemPlace)(h:DataW.trod enc Tryz.prog w base (λ_=>true) held fuel 78 cs=some x)(hsz:∀n∈x.1.weights Tryz.prog 78,n<=reachBytes):∃c:Lj,cs.length=3/\(∀j,j<3->cs[j]?=some (Y7 c j))/\aGS w c:=by
 obtain⟨xs,n,_,ex,hl,hlen,hf⟩:=DataW.trod_struct Tryz.underlying78 h;rw[VO] at hl
 match cs,hl with
 |[c0,c1,c2],_=>
  match xs,hlen with
  |[y0,y1,y2],_=>
   have g0:DataW.trod enc Tryz.prog w base (λ_=>true) held n 3 (List.take (Tryz.prog.cellsOf 3) [c0,c1,c2])=some y0:=hf 0 _ rfl;have g1:DataW.trod enc Tryz.prog w base (λ_=>true) held n 3 (List.take (Tryz.prog.cellsOf 3) [c1,c2])=some y1:=hf 1 _ rfl;have g2:DataW.trod enc Tryz.prog w base (λ_=>true) held n 76 (List.take (Tryz.prog.cellsOf 76) [c2])=some y2:=hf 2 _ rfl;rw[AA] at g0 g1;rw[aHJ] at g2;obtain⟨a0,q0,_,w0⟩:=DataW.trod_int Tryz.underlying3 (show DataW.trod enc Tryz.prog w base (λ_=>true) held n 3 [c0]=some y0 from g0);obtain⟨a1,q1,_,w1⟩:=DataW.trod_int Tryz.underlying3 (show DataW.trod enc Tryz.prog w base (λ_=>true) held n 3 [c1]=some y1 from g1);simp at q0 q1;subst q0 q1;have g2':DataW.trod enc Tryz.prog w base (λ_=>true) held n 76 [c2]=some y2:=g2;obtain⟨ao,len,cap,g,rfl,ha⟩:=aBd g2' (λk hk=>hsz k (by
    rw[ex];simp only[DataW.weights,Tryz.underlying78,List.map,DataW.weightsEach];simp only[List.mem_append];exact Or.inr (Or.inr (Or.inl hk))))
   refine⟨⟨⟨a0,a1,len,g⟩,ao,cap⟩,rfl,λj hj=>?_,ha.1,ha.2.2.2,ha.2.1,ha.2.2.1⟩
   match j,hj with
   |0,_=>rfl
   |1,_=>rfl
   |2,_=>rfl
end
end Go.Proofs.YthimcecbgpamdaaGreat
namespace Go.Proofs.YthimcecbgpamdaaGreat
open Go.ChangeShapes Go.WideShapes Go.ChangeAt Go.RowKit Go.Joins
set_option maxRecDepth 100000
section
variable {H:Type} {enc:TypeId×Value->H} {w:World} {base:Nat} {held:Bool}
theorem aEW(fuel:Nat)(cs:List Value)(x:DataW H×List MemPlace)(h:DataW.trod enc Tryz.prog w base (λ_=>true) held fuel 43 cs=some x)(hsz:∀n∈x.1.weights Tryz.prog 43,n<=reachBytes):∃c:Li,cs.length=14/\(∀j,j<14->cs[j]?=some (kE c j))/\LiOK w c/\c.LL.length*40<=140737488351232:=by
 obtain⟨xs,m,_,ex,hl,hlen,hx⟩:=DataW.trod_struct Tryz.underlying43 h;have hl:cs.length=14:=hl.trans aHP;have hlen:xs.length=3:=hlen;have p0:=iX (n:=12) Tryz.underlying43 (i:=0) rfl GK h;have p1:=iX (n:=1) Tryz.underlying43 (i:=1) rfl flat_int h;have h2:=hx 2 _ rfl;rw[List.getElem?_eq_getElem Yo] at h2;obtain⟨y,ey⟩:∃y,y=xs[2]:=⟨_,rfl⟩;rw[<-ey] at h2;have h2':DataW.trod enc Tryz.prog w base (λ_=>true) held m 41 ((cs.drop 13).take (Tryz.prog.cellsOf 41))=some y:=h2;rw[aFC] at h2';obtain⟨c0,ec⟩:∃c0,(cs.drop 13).take 1=[c0]:=by
  have:((cs.drop 13).take 1).length=1:=by rw[List.length_take,List.length_drop,hl];rfl
  match hq:(cs.drop 13).take 1,this with
  |[c0],_=>exact⟨c0,rfl⟩
 rw[ec] at h2';have hg:cs[13]?=some c0:=by rw[show (13:Nat)=13+0 from rfl, <-mV (n:=1) Yo,ec];rfl
 obtain⟨lo,lc,LL,rfl,hr,hR,hb,hc⟩:=aDs Y7 (aGS w) Tryz.underlying41 VO aHB Yo aGG h2' (λn hn=>hsz n (by
  rw[ex];simp only[DataW.weights,Tryz.underlying43];exact DataW.weights_mem_each (j:=2) (t:=41) (d:=y.1) rfl (by rw[List.getElem?_map,List.getElem?_eq_getElem Yo, <-ey];rfl) n hn))
 have hk:∀j,j<13->CellK false (cs.getD j (.int .i64 0)):=λj hj=>by
  by_cases r0:j<12
  .exact lC (o:=0) (K2:=λ_=>false) p0 Yo Yo Yo rfl
  .exact lC (o:=12) (K2:=λ_=>false) p1 Yo Yo Yo rfl
 have hR64:∀j,R64 (vI (cs.getD j (.int .i64 0))):=λj=>by
  by_cases hj:j<13
  .exact (hk j hj).R
  by_cases hj2:j=13
  .rw[hj2,List.getD_eq_getElem?_getD,hg];exact gU
  .rw[List.getD_eq_getElem?_getD,List.getElem?_eq_none Yo];exact gU
 have hat:∀j,j<14->cs[j]?=some (cs.getD j (.int .i64 0)):=λj hj=>by rw[List.getD_eq_getElem?_getD,List.getElem?_eq_getElem Yo];rfl
 refine⟨⟨λs a=>vI (cs.getD (s*3+a) (.int .i64 0)),vI (cs.getD 12 (.int .i64 0)),LL,lo,lc⟩,hl,λj hj=>?_,⟨⟨⟨λs a=>hR64 _,hR64 _,λy hy i=>?_⟩,⟨hr,hR⟩,hc⟩,hb⟩⟩
 .unfold kE mE;dsimp only;by_cases r0:j<12
  .rw[if_pos r0,show j/3*3+j%3=j by omega,(hk j Yo).i];exact hat j hj
  by_cases r1:j=12
  .rw[if_neg r0,if_pos r1,(hk 12 Yo).i,r1];exact hat 12 Yo
  .rw[if_neg r0,if_neg r1,show j=13 by omega];exact hg
 .obtain⟨c,hcm,rfl⟩:=List.mem_map.1 hy;exact (hR c hcm).2.2.2 i
end
end Go.Proofs.YthimcecbgpamdaaGreat
namespace Go.Proofs.YthimcecbgpamdaaGreat
open Go.RowKit
theorem FK(d:Nat)(a b c e:Int)(w:World):(Op.equalIn (d+1+1) 28 (.agg #[.int .i64 a,.int .i64 b,.int .i64 c,.int .i64 e]) (.agg #[.int .i64 a,.int .i64 b,.int .i64 c,.int .i64 e])).run Tryz.prog w=.ok true w:=by
 have u3:=Tryz.underlying3;have a3:=Tryz.isAgg3;have z3:=Tryz.sizeOf3;have ta:(a==a)=true:=by simp
 have tb:(b==b)=true:=by simp
 have tc:(c==c)=true:=by simp
 have td:(e==e)=true:=by simp
 rw[Op.equalIn];simp only[Sem.run_bind,run_underlying Tryz.underlying28,Result.andThen_ok];simp only[Std.Legacy.Range.forIn_eq_forIn_range',Std.Legacy.Range.size,Nat.sub_zero,Nat.add_sub_cancel,Nat.div_one,List.range'_succ,List.range'_zero,List.forIn_cons,List.forIn_nil];go_simp
theorem WZ(d:Nat)(a b c e:Bool)(w:World):(Op.equalIn (d+1+1) 27 (.agg #[.bool a,.bool b,.bool c,.bool e]) (.agg #[.bool a,.bool b,.bool c,.bool e])).run Tryz.prog w=.ok true w:=by
 have u3:=Tryz.underlying4;have a3:=Tryz.isAgg4;have z3:=Tryz.sizeOf4;have ta:(a==a)=true:=by simp
 have tb:(b==b)=true:=by simp
 have tc:(c==c)=true:=by simp
 have td:(e==e)=true:=by simp
 rw[Op.equalIn];simp only[Sem.run_bind,run_underlying Tryz.underlying27,Result.andThen_ok];simp only[Std.Legacy.Range.forIn_eq_forIn_range',Std.Legacy.Range.size,Nat.sub_zero,Nat.add_sub_cancel,Nat.div_one,List.range'_succ,List.range'_zero,List.forIn_cons,List.forIn_nil];go_simp
variable{o:Oper}{f:Operand->Value}
theorem aCS(x y:Operand)(ho:o.op=.binOp .eql 30 x y 30){r:Rl}(hx:f x=fP r)(hy:f y=fP r)(w:World):(execOp f o).run Tryz.prog w=.ok (.value (.bool true)) w:=by
 have h0:(Op.equalIn 9999 27 (.agg #[.bool (r.I 0),.bool (r.I 1),.bool (r.I 2),.bool (r.I 3)]) (.agg #[.bool (r.I 0),.bool (r.I 1),.bool (r.I 2),.bool (r.I 3)])).run Tryz.prog w=.ok true w:=WZ 9997 (r.I 0) (r.I 1) (r.I 2) (r.I 3) w;have h1:(Op.equalIn 9999 28 (.agg #[.int .i64 (r.M 0),.int .i64 (r.M 1),.int .i64 (r.M 2),.int .i64 (r.M 3)]) (.agg #[.int .i64 (r.M 0),.int .i64 (r.M 1),.int .i64 (r.M 2),.int .i64 (r.M 3)])).run Tryz.prog w=.ok true w:=FK 9997 (r.M 0) (r.M 1) (r.M 2) (r.M 3) w;have h2:(Op.equalIn 9999 28 (.agg #[.int .i64 (r.J 0),.int .i64 (r.J 1),.int .i64 (r.J 2),.int .i64 (r.J 3)]) (.agg #[.int .i64 (r.J 0),.int .i64 (r.J 1),.int .i64 (r.J 2),.int .i64 (r.J 3)])).run Tryz.prog w=.ok true w:=FK 9997 (r.J 0) (r.J 1) (r.J 2) (r.J 3) w;unfold fP at hx hy;unfold execOp;rw[ho];dsimp only;rw[hx,hy];go_simp
theorem rQ(d:Nat)(g:Nat->Int)(w:World):(Op.equalIn (d+1+1) 31 (.agg #[.int .i64 (g 0),.int .i64 (g 1),.int .i64 (g 2)]) (.agg #[.int .i64 (g 0),.int .i64 (g 1),.int .i64 (g 2)])).run Tryz.prog w=.ok true w:=by
 have u3:=Tryz.underlying3;have a3:=Tryz.isAgg3;have z3:=Tryz.sizeOf3;have t0:(g 0==g 0)=true:=by simp
 have t1:(g 1==g 1)=true:=by simp
 have t2:(g 2==g 2)=true:=by simp
 rw[Op.equalIn];simp only[Sem.run_bind,run_underlying Tryz.underlying31,Result.andThen_ok];simp only[Std.Legacy.Range.forIn_eq_forIn_range',Std.Legacy.Range.size,Nat.sub_zero,Nat.add_sub_cancel,Nat.div_one,List.range'_succ,List.range'_zero,List.forIn_cons,List.forIn_nil];go_simp
theorem FW(d:Nat)(s:St)(w:World):(Op.equalIn (d+1+1) 25 (.agg #[.int .i64 (s).X,.int .i64 (s).V,.int .i64 (s).P00,.int .i64 (s).P01,.int .i64 (s).P11,.bool (s).B,.int .i64 (s).M]) (.agg #[.int .i64 (s).X,.int .i64 (s).V,.int .i64 (s).P00,.int .i64 (s).P01,.int .i64 (s).P11,.bool (s).B,.int .i64 (s).M])).run Tryz.prog w=.ok true w:=by
 have u3:=Tryz.underlying3;have a3:=Tryz.isAgg3;have z3:=Tryz.sizeOf3;have u4:=Tryz.underlying4;have a4:=Tryz.isAgg4;have z4:=Tryz.sizeOf4;have tX:(s.X==s.X)=true:=by simp
 have tV:(s.V==s.V)=true:=by simp
 have tP00:(s.P00==s.P00)=true:=by simp
 have tP01:(s.P01==s.P01)=true:=by simp
 have tP11:(s.P11==s.P11)=true:=by simp
 have tB:(s.B==s.B)=true:=by simp
 have tM:(s.M==s.M)=true:=by simp
 rw[Op.equalIn];simp only[Sem.run_bind,run_underlying Tryz.underlying25,Result.andThen_ok];go_simp
theorem aDf(x y:Operand)(ho:o.op=.binOp .eql 23 x y 23){t:Tn}(hx:f x=aN (qV t) 0 4)(hy:f y=aN (qV t) 0 4)(w:World):(execOp f o).run Tryz.prog w=.ok (.value (.bool true)) w:=by
 have hx':f x=.agg #[.int .i64 t.Dt,.int .i64 t.Q,.int .i64 t.R,.int .i64 t.G]:=hx;have hy':f y=.agg #[.int .i64 t.Dt,.int .i64 t.Q,.int .i64 t.R,.int .i64 t.G]:=hy;clear hx hy;have u3:=Tryz.underlying3;have a3:=Tryz.isAgg3;have z3:=Tryz.sizeOf3;unfold execOp;rw[ho];dsimp only;rw[hx',hy'];go_simp
variable{g:Nat->Int}
theorem aEd(x y:Operand)(ho:o.op=.binOp .eql 28 x y 28)(hx:f x=aN (λj=>iV (g j)) 0 4)(hy:f y=aN (λj=>iV (g j)) 0 4)(w:World):(execOp f o).run Tryz.prog w=.ok (.value (.bool true)) w:=by
 have hx':f x=.agg #[.int .i64 (g 0),.int .i64 (g 1),.int .i64 (g 2),.int .i64 (g 3)]:=hx;have hy':f y=.agg #[.int .i64 (g 0),.int .i64 (g 1),.int .i64 (g 2),.int .i64 (g 3)]:=hy;clear hx hy;have h0:=FK 9998 (g 0) (g 1) (g 2) (g 3) w;unfold execOp;rw[ho];dsimp only;rw[hx',hy'];go_simp
theorem aEo(x y:Operand)(ho:o.op=.binOp .eql 31 x y 31)(hx:f x=aN (λj=>iV (g j)) 0 3)(hy:f y=aN (λj=>iV (g j)) 0 3)(w:World):(execOp f o).run Tryz.prog w=.ok (.value (.bool true)) w:=by
 have hx':f x=.agg #[.int .i64 (g 0),.int .i64 (g 1),.int .i64 (g 2)]:=hx;have hy':f y=.agg #[.int .i64 (g 0),.int .i64 (g 1),.int .i64 (g 2)]:=hy;clear hx hy;have h0:=rQ 9998 g w;unfold execOp;rw[ho];dsimp only;rw[hx',hy'];go_simp
set_option maxRecDepth 100000 in
theorem ZN(a:Nat->St)(w:World):(Op.equalIn 10000 26 (.agg #[.int .i64 (a 0).X,.int .i64 (a 0).V,.int .i64 (a 0).P00,.int .i64 (a 0).P01,.int .i64 (a 0).P11,.bool (a 0).B,.int .i64 (a 0).M,.int .i64 (a 1).X,.int .i64 (a 1).V,.int .i64 (a 1).P00,.int .i64 (a 1).P01,.int .i64 (a 1).P11,.bool (a 1).B,.int .i64 (a 1).M,.int .i64 (a 2).X,.int .i64 (a 2).V,.int .i64 (a 2).P00,.int .i64 (a 2).P01,.int .i64 (a 2).P11,.bool (a 2).B,.int .i64 (a 2).M]) (.agg #[.int .i64 (a 0).X,.int .i64 (a 0).V,.int .i64 (a 0).P00,.int .i64 (a 0).P01,.int .i64 (a 0).P11,.bool (a 0).B,.int .i64 (a 0).M,.int .i64 (a 1).X,.int .i64 (a 1).V,.int .i64 (a 1).P00,.int .i64 (a 1).P01,.int .i64 (a 1).P11,.bool (a 1).B,.int .i64 (a 1).M,.int .i64 (a 2).X,.int .i64 (a 2).V,.int .i64 (a 2).P00,.int .i64 (a 2).P01,.int .i64 (a 2).P11,.bool (a 2).B,.int .i64 (a 2).M])).run Tryz.prog w=.ok true w:=by
 have u3:=Tryz.underlying25;have a3:=Tryz.isAgg25;have z3:=Tryz.sizeOf25;have h0:(Op.equalIn (9997+1+1) 25 (.agg #[.int .i64 (a 0).X,.int .i64 (a 0).V,.int .i64 (a 0).P00,.int .i64 (a 0).P01,.int .i64 (a 0).P11,.bool (a 0).B,.int .i64 (a 0).M]) (.agg #[.int .i64 (a 0).X,.int .i64 (a 0).V,.int .i64 (a 0).P00,.int .i64 (a 0).P01,.int .i64 (a 0).P11,.bool (a 0).B,.int .i64 (a 0).M])).run Tryz.prog w=.ok true w:=FW 9997 (a 0) w;have h1:(Op.equalIn (9997+1+1) 25 (.agg #[.int .i64 (a 1).X,.int .i64 (a 1).V,.int .i64 (a 1).P00,.int .i64 (a 1).P01,.int .i64 (a 1).P11,.bool (a 1).B,.int .i64 (a 1).M]) (.agg #[.int .i64 (a 1).X,.int .i64 (a 1).V,.int .i64 (a 1).P00,.int .i64 (a 1).P01,.int .i64 (a 1).P11,.bool (a 1).B,.int .i64 (a 1).M])).run Tryz.prog w=.ok true w:=FW 9997 (a 1) w;have h2:(Op.equalIn (9997+1+1) 25 (.agg #[.int .i64 (a 2).X,.int .i64 (a 2).V,.int .i64 (a 2).P00,.int .i64 (a 2).P01,.int .i64 (a 2).P11,.bool (a 2).B,.int .i64 (a 2).M]) (.agg #[.int .i64 (a 2).X,.int .i64 (a 2).V,.int .i64 (a 2).P00,.int .i64 (a 2).P01,.int .i64 (a 2).P11,.bool (a 2).B,.int .i64 (a 2).M])).run Tryz.prog w=.ok true w:=FW 9997 (a 2) w;rw[show (10000:Nat)=9997+1+1+1 from rfl,Op.equalIn];simp only[Sem.run_bind,run_underlying Tryz.underlying26,Result.andThen_ok];simp only[Std.Legacy.Range.forIn_eq_forIn_range',Std.Legacy.Range.size,Nat.sub_zero,Nat.add_sub_cancel,Nat.div_one,List.range'_succ,List.range'_zero,List.forIn_cons,List.forIn_nil];go_simp
theorem aCg(x y:Operand)(ho:o.op=.binOp .eql 26 x y 26){a:Nat->St}(hx:f x=aN (λj=>dO (a (j/7)) (j%7)) 0 21)(hy:f y=aN (λj=>dO (a (j/7)) (j%7)) 0 21)(w:World):(execOp f o).run Tryz.prog w=.ok (.value (.bool true)) w:=by
 have hx':f x=.agg #[.int .i64 (a 0).X,.int .i64 (a 0).V,.int .i64 (a 0).P00,.int .i64 (a 0).P01,.int .i64 (a 0).P11,.bool (a 0).B,.int .i64 (a 0).M,.int .i64 (a 1).X,.int .i64 (a 1).V,.int .i64 (a 1).P00,.int .i64 (a 1).P01,.int .i64 (a 1).P11,.bool (a 1).B,.int .i64 (a 1).M,.int .i64 (a 2).X,.int .i64 (a 2).V,.int .i64 (a 2).P00,.int .i64 (a 2).P01,.int .i64 (a 2).P11,.bool (a 2).B,.int .i64 (a 2).M]:=hx;have hy':f y=.agg #[.int .i64 (a 0).X,.int .i64 (a 0).V,.int .i64 (a 0).P00,.int .i64 (a 0).P01,.int .i64 (a 0).P11,.bool (a 0).B,.int .i64 (a 0).M,.int .i64 (a 1).X,.int .i64 (a 1).V,.int .i64 (a 1).P00,.int .i64 (a 1).P01,.int .i64 (a 1).P11,.bool (a 1).B,.int .i64 (a 1).M,.int .i64 (a 2).X,.int .i64 (a 2).V,.int .i64 (a 2).P00,.int .i64 (a 2).P01,.int .i64 (a 2).P11,.bool (a 2).B,.int .i64 (a 2).M]:=hy;clear hx hy;have h0:=ZN a w;unfold execOp;rw[ho];dsimp only;rw[hx',hy'];go_simp
set_option maxRecDepth 100000 in
theorem aCm(g:Nat->Nat->Int)(w:World):(Op.equalIn 10000 32 (.agg #[.int .i64 (g 0 0),.int .i64 (g 0 1),.int .i64 (g 0 2),.int .i64 (g 1 0),.int .i64 (g 1 1),.int .i64 (g 1 2),.int .i64 (g 2 0),.int .i64 (g 2 1),.int .i64 (g 2 2),.int .i64 (g 3 0),.int .i64 (g 3 1),.int .i64 (g 3 2)]) (.agg #[.int .i64 (g 0 0),.int .i64 (g 0 1),.int .i64 (g 0 2),.int .i64 (g 1 0),.int .i64 (g 1 1),.int .i64 (g 1 2),.int .i64 (g 2 0),.int .i64 (g 2 1),.int .i64 (g 2 2),.int .i64 (g 3 0),.int .i64 (g 3 1),.int .i64 (g 3 2)])).run Tryz.prog w=.ok true w:=by
 have u3:=Tryz.underlying31;have a3:=Tryz.isAgg31;have z3:=Tryz.sizeOf31;have h0:(Op.equalIn (9997+1+1) 31 (.agg #[.int .i64 (g 0 0),.int .i64 (g 0 1),.int .i64 (g 0 2)]) (.agg #[.int .i64 (g 0 0),.int .i64 (g 0 1),.int .i64 (g 0 2)])).run Tryz.prog w=.ok true w:=rQ 9997 (g 0) w;have h1:(Op.equalIn (9997+1+1) 31 (.agg #[.int .i64 (g 1 0),.int .i64 (g 1 1),.int .i64 (g 1 2)]) (.agg #[.int .i64 (g 1 0),.int .i64 (g 1 1),.int .i64 (g 1 2)])).run Tryz.prog w=.ok true w:=rQ 9997 (g 1) w;have h2:(Op.equalIn (9997+1+1) 31 (.agg #[.int .i64 (g 2 0),.int .i64 (g 2 1),.int .i64 (g 2 2)]) (.agg #[.int .i64 (g 2 0),.int .i64 (g 2 1),.int .i64 (g 2 2)])).run Tryz.prog w=.ok true w:=rQ 9997 (g 2) w;have h3:(Op.equalIn (9997+1+1) 31 (.agg #[.int .i64 (g 3 0),.int .i64 (g 3 1),.int .i64 (g 3 2)]) (.agg #[.int .i64 (g 3 0),.int .i64 (g 3 1),.int .i64 (g 3 2)])).run Tryz.prog w=.ok true w:=rQ 9997 (g 3) w;rw[show (10000:Nat)=9997+1+1+1 from rfl,Op.equalIn];simp only[Sem.run_bind,run_underlying Tryz.underlying32,Result.andThen_ok];simp only[Std.Legacy.Range.forIn_eq_forIn_range',Std.Legacy.Range.size,Nat.sub_zero,Nat.add_sub_cancel,Nat.div_one,List.range'_succ,List.range'_zero,List.forIn_cons,List.forIn_nil];go_simp
theorem NH(x y:Operand)(ho:o.op=.binOp .eql 32 x y 32){g:Nat->Nat->Int}(hx:f x=aN (λj=>iV (g (j/3) (j%3))) 0 12)(hy:f y=aN (λj=>iV (g (j/3) (j%3))) 0 12)(w:World):(execOp f o).run Tryz.prog w=.ok (.value (.bool true)) w:=by
 have hx':f x=.agg #[.int .i64 (g 0 0),.int .i64 (g 0 1),.int .i64 (g 0 2),.int .i64 (g 1 0),.int .i64 (g 1 1),.int .i64 (g 1 2),.int .i64 (g 2 0),.int .i64 (g 2 1),.int .i64 (g 2 2),.int .i64 (g 3 0),.int .i64 (g 3 1),.int .i64 (g 3 2)]:=hx;have hy':f y=.agg #[.int .i64 (g 0 0),.int .i64 (g 0 1),.int .i64 (g 0 2),.int .i64 (g 1 0),.int .i64 (g 1 1),.int .i64 (g 1 2),.int .i64 (g 2 0),.int .i64 (g 2 1),.int .i64 (g 2 2),.int .i64 (g 3 0),.int .i64 (g 3 1),.int .i64 (g 3 2)]:=hy;clear hx hy;have h0:=aCm g w;unfold execOp;rw[ho];dsimp only;rw[hx',hy'];go_simp
theorem ME:Many Tryz.prog 26 21:=Many.of _ Tryz.underlying26 rfl Yl
theorem aAR(n:Nd)(v:Value):∀j,j<21->ndF n v (0+6+j)=(λj=>dO (n.ax (j/7)) (j%7)) j:=by grind [ndF]
theorem aAt(n:Nd)(v:Value):∀j,j<12->ndF n v (0+39+j)=(λj=>iV (n.di (j/3) (j%3))) j:=by grind [ndF]
theorem aAY(n:Nd)(v:Value):∀j,j<4->ndF n v (0+51+j)=(λj=>iV (n.he j)) j:=by grind [ndF]
theorem aAg(n:Nd)(v:Value):∀j,j<12->ndF n v (0+55+j)=(λj=>iV (n.ag (j/3) (j%3))) j:=by grind [ndF]
theorem aAw(n:Nd)(v:Value):∀j,j<3->ndF n v (0+67+j)=(λj=>iV (n.us j)) j:=by grind [ndF]
theorem ZI(x y:Value)(w:World):(callFunc 56 #[x,y]).run Tryz.prog w=.ok (.enter 56 #[x,y]) w:=Yh
theorem KG(n:Nd)(ao bo:Option Addr)(c c2:Nat)(w:World)(ha:Sr w ao n.vA.length c (tF (bA n)))(hb:Sr w bo n.vA.length c2 (tF (bA n)))(hl:n.vA.length<=140737488351232):Calls Tryz.prog 30 #[iI n (.slice ao n.vA.length c),iI n (.slice bo n.vA.length c2)] w λe w'=>e=.returned (.bool true)/\Below w.heap.size w w':=by
 refine bO Tryz.func30 rfl 80 rfl Yd (λA hs hd hb=>?_);have b0:A.eval (.tmp 0)=iI n (.slice ao n.vA.length c):=hb 0 _ rfl;have b1:A.eval (.tmp 1)=iI n (.slice bo n.vA.length c2):=hb 1 _ rfl;clear hb;refine aD (aG ?_);refine Zb (λw1 m1 k1 z1=>?_);have sa1:=ha.below k1;have sb1:=hb.below k1;refine Zb (λw2 m2 k2 z2=>?_);have ma2:=m1.below k2;have sa2:=sa1.below k2;have sb2:=sb1.below k2;refine Yx ?_;refine aC<|aD<|Yx ?_;refine Yq (aY (v:=.int .i64 n.id) _ _ rfl fZ Yf ma2 Yc rfl) ?_;refine Yx ?_;refine Yq (aY (v:=.int .i64 n.id) _ _ rfl fZ Yf m2 Yc rfl) ?_;refine Yq (bL (b:=true) _ _ rfl Yf Yf (Xt rfl) _) ?_;iterate 2 refine Yx ?_
 refine Yq (aY (v:=.int .i64 n.fr) _ _ rfl fZ Yf ma2 Yc rfl) ?_;refine Yx ?_;refine Yq (aY (v:=.int .i64 n.fr) _ _ rfl fZ Yf m2 Yc rfl) ?_;refine Yq (bL (b:=true) _ _ rfl Yf Yf (Xt rfl) _) ?_;refine Yq (aL _ _ _ rfl Yf Yf _) ?_;iterate 2 refine Yx ?_
 refine Yq (bM _ _ rfl JX Yf ma2 Yc (KR _ _)) ?_;refine Yx ?_;refine Yq (bM _ _ rfl JX Yf m2 Yc (KR _ _)) ?_;refine Yq (aDf _ _ rfl Yf Yf _) ?_;refine Yq (aL _ _ _ rfl Yf Yf _) ?_;iterate 2 refine Yx ?_
 refine Yq (bM _ _ rfl ME Yf ma2 Yc (aAR _ _)) ?_;refine Yx ?_;refine Yq (bM _ _ rfl ME Yf m2 Yc (aAR _ _)) ?_;refine Yq (aCg _ _ rfl Yf Yf _) ?_;refine Yq (aL _ _ _ rfl Yf Yf _) ?_;iterate 2 refine Yx ?_
 refine Yq (bM _ _ rfl fC Yf ma2 Yc (vM _ _)) ?_;refine Yx ?_;refine Yq (bM _ _ rfl fC Yf m2 Yc (vM _ _)) ?_;refine Yq (aCS _ _ rfl Yf Yf _) ?_;refine Yq (aL _ _ _ rfl Yf Yf _) ?_;iterate 2 refine Yx ?_
 refine Yq (bM _ _ rfl mY Yf ma2 Yc (aAt _ _)) ?_;refine Yx ?_;refine Yq (bM _ _ rfl mY Yf m2 Yc (aAt _ _)) ?_;refine Yq (NH _ _ rfl Yf Yf _) ?_;refine Yq (aL _ _ _ rfl Yf Yf _) ?_;iterate 2 refine Yx ?_
 refine Yq (bM _ _ rfl qM Yf ma2 Yc (aAY _ _)) ?_;refine Yx ?_;refine Yq (bM _ _ rfl qM Yf m2 Yc (aAY _ _)) ?_;refine Yq (aEd _ _ rfl Yf Yf _) ?_;refine Yq (aL _ _ _ rfl Yf Yf _) ?_;iterate 2 refine Yx ?_
 refine Yq (bM _ _ rfl mY Yf ma2 Yc (aAg _ _)) ?_;refine Yx ?_;refine Yq (bM _ _ rfl mY Yf m2 Yc (aAg _ _)) ?_;refine Yq (NH _ _ rfl Yf Yf _) ?_;refine Yq (aL _ _ _ rfl Yf Yf _) ?_;iterate 2 refine Yx ?_
 refine Yq (bM _ _ rfl kG Yf ma2 Yc (aAw _ _)) ?_;refine Yx ?_;refine Yq (bM _ _ rfl kG Yf m2 Yc (aAw _ _)) ?_;refine Yq (aEo _ _ rfl Yf Yf _) ?_;refine Yq (aL _ _ _ rfl Yf Yf _) ?_;iterate 2 refine Yx ?_
 refine Yq (aY (v:=.int .i64 n.dg) _ _ rfl fZ Yf ma2 Yc rfl) ?_;refine Yx ?_;refine Yq (aY (v:=.int .i64 n.dg) _ _ rfl fZ Yf m2 Yc rfl) ?_;refine Yq (bL (b:=true) _ _ rfl Yf Yf (Xt rfl) _) ?_;refine Yq (aL _ _ _ rfl Yf Yf _) ?_;iterate 2 refine Yx ?_
 refine Yq (bM _ _ rfl X8 Yf ma2 Yc (JL _ _)) ?_;refine Yx ?_;refine Yq (bM _ _ rfl X8 Yf m2 Yc (JL _ _)) ?_;refine bI rfl (dB (j:=68) rfl rfl rfl Yf) (λK hK=>?_);refine dG _ 56 _ _ _ rfl Yf Yf (ZI _ _ _) (LJ n.vX n.vS ao bo n.vA.length c c2 (bA n) (bA n) _ (by have:=hl;omega) sa2.rd sb2.rd (λ_ _=>rfl)) ?_;rintro e w3 ⟨rfl,k3⟩;refine⟨_,rfl,?_⟩;refine hK _ _ ?_;clear hK K;refine Yq (aL _ _ _ rfl Yf Yf _) ?_;refine Yx ?_;refine aC<|aW (aP YB (dW rfl Yf) ⟨rfl,(k1.trans (k2.mono Yo)).trans (k3.mono Yo)⟩)
variable{i:Nat}
theorem LD(fr:Int)(D:Nat->Nd×Ad){j:Nat}(hj:j<74):gF fr D (0+1+i*74+j)=ndF (D i).1 (slV (D i).2 (D i).1.vA.length) j:=by
 unfold gF;rw[show 0+1+i*74+j=1+i*74+j by omega];exact TV _ _ _ hj
variable{w:World}
theorem uI{B:Nat}{d:Nd×Ad}(h:(vU B d).p w):nJ w d.1 d.2.1 d.2.2:=by
 obtain⟨a3,c3,e,hs3,_⟩:=iT h
 cases e
 exact hs3
theorem Y9:BgC 9:=by
 intro t w ht;refine bO Tryz.func9 rfl 19 rfl Yd (λA hs hd hb=>?_);have b0:A.eval (.tmp 0)=aN (qV t) 0 4:=hb 0 _ rfl;clear hb;have H:=Cx.start w;refine aD (aG ?_);refine iH H ?_;intro w1 H z1;refine gJ H ?_;intro w2 H z2;refine aC<|aD<|gJ H ?_;intro w3 H z3;refine aC<|aH<|aD ?_;repeat first|refine qa ?_|refine aC ?_
 refine aK ?_;refine bX (λr A W => ∃ (i : Nat) (D : Nat -> Nd × Ad), i <= 4 /\ 4 - i <= r /\ A.tmps.size = 19 /\ A.defers = [] /\ A.eval (.tmp 1) = .pointer (some ⟨w.heap.size, 0, none⟩) /\ A.eval (.tmp 2) = .pointer (some ⟨w1.heap.size, 0, none⟩) /\ A.eval (.tmp 3) = .pointer (some ⟨w2.heap.size, 0, none⟩) /\ A.eval (.tmp 5) = .int .i64 (i : Int) /\ (∀ j, j < i -> (D j).1 = jY (j : Nat) t) /\
   Cx w W [lX w.heap.size D,vhI 40 w2.heap.size 297 297 (gF 0 D),vhI 40 w1.heap.size 297 297 (pO 0 (λ_=>dI) (λ_=>slV (none,0) 0)),vhI 23 w.heap.size 4 4 (qV t)]) 4
  ⟨0,λ_=>(dI,(none,0)),Xz _,Yo,YA,YB,Qv,Qv,Qv,Qv,λj h=>absurd h (Nat.not_lt_zero j),H.add (Below.refl _ _) (lX w.heap.size (λ_=>(dI,(none,0)))) (λ_ _=>World.ownsRow_nil _ _ _ _) (λj ⟨_,_,e⟩=>absurd e (λe=>nomatch e))⟩ (λr B W hI=>?_)
 clear b0 hs hd H;obtain⟨i,D,hi,hr,hs,hd,b1,b2,b3,b5,hD,H⟩:=hI;refine aD (aG ?_);repeat first|refine qa ?_|refine aC ?_|refine aD ?_|refine aH ?_
 refine fB (λh=>?_) (λh=>?_)
 .have hin:i<4:=by have:=Xu h;omega
  refine aU<|aH (aK ?_);refine aD ?_;repeat first|refine qa ?_|refine aC ?_|refine aI ?_
  have hsz:=H.size;refine yU (JO (i:Int) t W (by unfold R64;omega) ht) ?_;rintro e w4 ⟨a',c',rfl,g1,k4⟩;refine⟨_,rfl,?_⟩;replace H:=H.add k4 (vU w.heap.size (jY (i:Nat) t,(a',c'))) (bY g1 hsz) (λj e=>(g1.lt j e).1);iterate 5 refine qa ?_
  refine fJ H.a2 (λj hj=>Eq.trans (by rw[show 0+1+i*74=1+i*74 by omega];rfl) (aAi 0 D i (jY (i:Nat) t,(a',c')) j hj)) (bP _ _ _ _) ?_;intro w5 H z5;refine fD<|aI ?_;repeat refine qa ?_
  exact aS ⟨4-(i+1),Yo,i+1,_,Yo,Yo,YA,YB,Qv,Qv,Qv,Eq.trans Qv YC,λj hj=>(by
   by_cases e:j=i
   .rw[e,dD]
   .rw[bZ _ _ e];exact hD j Yo),mJ (g:=vU w.heap.size) i H⟩
 .obtain rfl:i=4:=by have:=Xg h;omega
  refine bQ (dU ?_);refine aD<|qa ?_;refine fJ H.a2 aV (sW _ _) ?_;intro w5 H z5;refine aC ?_;exact aW (aP YB (pQ rfl Qv ManyK.out H.v2 (Xr _)) ⟨D,rfl,hD,H.sub (List.Sublist.cons_cons _ (List.nil_sublist _))⟩)
theorem AZ(fr:Int)(D E:Nat->Nd×Ad)(w:World)(he:∀i,i<4->(E i).1=(D i).1)(hD:∀i,i<4->nJ w (D i).1 (D i).2.1 (D i).2.2)(hE:∀i,i<4->nJ w (E i).1 (E i).2.1 (E i).2.2)(hl:∀i,i<4->(D i).1.vA.length<=140737488351232):Calls Tryz.prog 10 #[aN (gF fr D) 0 297,aN (gF fr E) 0 297] w λe w'=>e=.returned (.bool true)/\Below w.heap.size w w':=by
 refine bO Tryz.func10 rfl 25 rfl Yd (λA hs hd hb=>?_);have b0:A.eval (.tmp 0)=aN (gF fr D) 0 297:=hb 0 _ rfl;have b1:A.eval (.tmp 1)=aN (gF fr E) 0 297:=hb 1 _ rfl;clear hb;have H:=Cx.start w;refine aD (aG ?_);refine iH H ?_;clear H;intro w1 H z1;refine iH H ?_;clear H;intro w2 H z2;refine qa ?_;refine aC<|aH<|aD ?_;repeat first|refine qa ?_|refine aC ?_
 refine aK ?_;refine bX (λr A W=>∃i:Nat,i<=4/\4-i<=r/\A.tmps.size=25/\A.defers=[]/\A.eval (.tmp 2)=.pointer (some ⟨w.heap.size,0,none⟩)/\A.eval (.tmp 3)=.pointer (some ⟨w1.heap.size,0,none⟩)/\A.eval (.tmp 6)=.int .i64 (i:Int)/\Cx w W [vhI 40 w1.heap.size 297 297 (gF fr E),vhI 40 w.heap.size 297 297 (gF fr D)]) 4
  ⟨0,Xz _,Yo,YA,YB,Qv,Qv,Qv,H⟩ (λr B W hI=>?_)
 clear b0 b1 hs hd H;obtain⟨i,hi,hr,hs,hd,b2,b3,b6,H⟩:=hI;refine aD (aG ?_);repeat first|refine qa ?_|refine aC ?_|refine aH ?_
 refine fB (λh=>?_) (λh=>?_)
 .have i4:i<4:=by have:=Xu h;omega
  refine aU<|aH (aK ?_);refine aD ?_;iterate 2 refine qa ?_
  refine aC<|aH ?_;replace H:=H.drew;have hS:=H.its;refine fG (S:=Its [vhI 40 w1.heap.size 297 297 (gF fr E),vhI 40 w.heap.size 297 297 (gF fr D)]) (.mv 0 (.mv 1 (.mv 2 (.rd 3 (.mv 4 (.mv 5 (.mv 6 (.rd 7 (.go 8 (.mv 9 .fin)))))))))) [] Yl Yl ?_;iterate 3 refine qj ?_
  refine Yr rfl hS (λ_ H=>Eq.trans (aX _ _ rfl ManyK.out Qv H.v1 Yo) (by rw[jG (λj hj=>LD fr D (i:=i) hj)])) ?_;iterate 3 refine qj ?_
  refine Yr rfl hS (λ_ H=>Eq.trans (aX _ _ rfl ManyK.out Qv H.v0 Yo) (by rw[jG (λj hj=>LD fr E (i:=i) hj),he i i4])) ?_;refine dC rfl rfl Yw (λK hK=>dG _ 30 _ _ _ rfl Qv Qv (EntK.out _ _) (KG (D i).1 (D i).2.1 (E i).2.1 (D i).2.2 (E i).2.2 _ ((hD i i4).below H.bel) (by have:=(hE i i4).below H.bel;unfold nJ at this;rw[he i i4] at this;exact this) (hl i i4)) ?_);rintro e w4 ⟨rfl,k4⟩;replace H:=H.call k4;refine⟨_,rfl,hK _ _ (λ_ _=>H.its) ?_⟩;refine qj ?_;refine fV<|yV rfl (fM ?_);refine aI ?_;repeat refine qa ?_
  exact aS ⟨4-(i+1),Yo,i+1,Yo,Yo,YA,YB,Qv,Qv,Eq.trans Qv YC,H⟩
 .refine bQ (dU ?_);refine aD<|qa ?_;refine qg (aY _ _ rfl OneK.out Qv H.v1 Yo (show _=Value.int .i64 fr from rfl)) ?_;refine qa ?_;refine qg (aY _ _ rfl OneK.out Qv H.v0 Yo (show _=Value.int .i64 fr from rfl)) ?_;refine qg (bL (b:=true) _ _ rfl Qv Qv (Xt rfl) _) ?_;refine qa ?_;refine aC ?_;exact aW (aP YB (dW rfl Qv) ⟨rfl,H.bel⟩)
instance iRefCl2_1:ManyK Tryz.prog 81 4:=⟨Many.of _ Tryz.underlying81 rfl Yl⟩
instance iRefCl2_2:ArrK Tryz.prog 81 4 80:=⟨Tryz.underlying81⟩
instance iRefCl2_3:OneK Tryz.prog 80:=⟨⟨λw=>by go_simp,λw=>Yh⟩⟩
instance iRefCl2_4:SizK Tryz.prog 80 1:=⟨λw=>Yh⟩
variable{w':World}
theorem aAz{w0:World}{c:Lm}{l:List It}(H:Cx w0 w (gB w0.heap.size 3 1 (lmV c) c.m.L.length (rowV (iF (gL c.m.L)) c.m.L.length)::l))(k:Below w.heap.size w w')(m:Vh 67 w' w.heap.size 4 4 (tJ c)):Cx w0 w' (oC w0.heap.size (.slice (some ⟨w.heap.size,0,none⟩) 1 1) [c]::l):=by
 have hM:World.ownsRow _ _ _ _ _ _ _:=H.o0;refine H.a0.put (y:=(oC w0.heap.size (.slice (some ⟨w.heap.size,0,none⟩) 1 1) [c])) ⟨k.os,k.tape,k.output,k.size,λj h5 _=>k.block j h5,⟨FZ m H.size,λd hd=>?_⟩,λj hj=>?_⟩
 .simp only[List.mem_cons,List.not_mem_nil,or_false] at hd;subst hd;exact bK hM k
 .rcases hj with e|⟨d,hd,e⟩
  .cases e
   exact Or.inr (Xr _)
  .simp only[List.mem_cons,List.not_mem_nil,or_false] at hd;subst hd;exact Or.inl e
set_option maxRecDepth 10000 in
theorem BP(x:Ip)(told:Nat->Ms)(ta:Nat->Ad)(po:Nat->Option Addr)(lo:Option Addr)(lc:Nat)(LL:List Lj)(wo ph:Nat)(w:World)(hx:x.ly=LL.map Lj.y)(hj:JRd w lo LL)(hl:LL.length<=400)(ht:∀j:Nat,j<4->j≠wo->(j:Int)≠x.bad->∃b,po j=some ⟨b,0,none⟩/\Vh 67 w b 4 4 (msF (told j).K (told j).F (told j).R (slV (ta j) (told j).L.length))/\MsOK (told j)/\(told j).L.length<=(ta j).2/\Sr w (ta j).1 (told j).L.length (ta j).2 (iF (gL (told j).L))):Calls Tryz.prog 22 #[.int .i64 (wo:Int),aN (λj=>.pointer (po j)) 0 4,aN (mE x.rd x.bad (.slice lo LL.length lc)) 0 14,.int .i64 (ph:Int)] w λe w'=>∃mo mc M,e=.returned (.slice mo M.length mc)/\M.map Lm.m=mQ x told wo ph 4/\OwnM w' w.heap.size (.slice mo M.length mc) M/\Below w.heap.size w w':=by
 refine bO Tryz.func22 rfl 89 rfl Yd (λA hs hd hb=>?_);have b0:A.eval (.tmp 0)=.int .i64 (wo:Int):=hb 0 _ rfl;have b1:A.eval (.tmp 1)=aN (λj=>.pointer (po j)) 0 4:=hb 1 _ rfl;have b2:A.eval (.tmp 2)=aN (mE x.rd x.bad (.slice lo LL.length lc)) 0 14:=hb 2 _ rfl;have b3:A.eval (.tmp 3)=.int .i64 (ph:Int):=hb 3 _ rfl;clear hb;have H:=Cx.start w;refine aD (aG ?_);refine iH H ?_;clear H;intro w1 H z1;refine iH H ?_;clear H;intro w2 H z2;refine qa ?_;refine aC<|aD<|qa ?_;refine aC<|aH<|aD<|qa ?_;refine aC<|aK ?_;refine bX (λr A W=>∃(i:Nat) (u:Value) (M:List Lm),i<=4/\4-i<=r/\A.tmps.size=89/\A.defers=[]/\A.eval (.tmp 0)=.int .i64 (wo:Int)/\A.eval (.tmp 3)=.int .i64 (ph:Int)/\A.eval (.tmp 5)=.pointer (some ⟨w.heap.size,0,none⟩)/\A.eval (.tmp 6)=.pointer (some ⟨w1.heap.size,0,none⟩)/\A.eval (.tmp 9)=u/\A.eval (.tmp 10)=.int .i64 (i:Int)/\M.map Lm.m=mQ x told wo ph i/\Cx w W [oC w.heap.size u M,vhI 43 w1.heap.size 14 14 (mE x.rd x.bad (.slice lo LL.length lc)),vhI 81 w.heap.size 4 4 (λj=>.pointer (po j))]) 4
  ⟨0,_,[],Xz _,Yo,YA,YB,Qv,Qv,Qv,Qv,Qv,Qv,rfl,H.add (Below.refl _ _) (oC _ _ _) (OwnM.nil _ _) (λj e=>xX (OwnM.nil w2 w2.heap.size) j e)⟩ (λr B W hI=>?_)
 clear b0 b1 b2 b3 hs hd H;obtain⟨i,u,M,hi,hr,hs,hd,b0,b3,b5,b6,b9,b10,hM,H⟩:=hI;have hMl:M.length<=400*i:=by
  have h1:=congrArg List.length hM;rw[List.length_map] at h1;rw[h1];exact CX (by rw[hx,List.length_map];exact hl) told wo ph i
 refine aH<|aD (aG ?_);iterate 2 refine qa ?_
 refine aC<|fB (λh=>?_) (λh=>?_)
 .have hin:i<4:=by have:=Xu h;omega
  refine aU<|aH (aK ?_);refine aH<|aD ?_;iterate 3 refine qa ?_
  refine aC<|fB (λh1=>?_) (λh1=>?_)
  .have e1:i=wo:=by have:=Xu h1;omega
   refine bQ (yX ?_);refine aI ?_;repeat refine qa ?_
   exact aS ⟨4-(i+1),Yo,i+1,_,M,Yo,Yo,YA,YB,Qv,Qv,Qv,Qv,Qv,Eq.trans Qv YC,by rw[hM];show _=mQ x told wo ph i++_;rw[if_pos e1,List.append_nil],H⟩
  .have e1:i≠wo:=by have:=Xg h1;omega
   refine aU<|aH<|aD ?_;iterate 4 refine qa ?_
   refine aC<|fB (λh2=>?_) (λh2=>?_)
   .have e2:(i:Int)≠x.bad:=Xu h2;obtain⟨mb,hpt,G0,t1,t2,t3⟩:=ht i hin e1 e2;refine aD<|qa ?_;refine qg (bD _ _ _ _ rfl ArrK.out SizK.out Qv Qv rfl hin _) ?_;refine qg (aY (v:=.pointer (some ⟨mb,0,none⟩)) _ _ rfl OneK.out Qv H.v2 Yo (by show Value.pointer (po (0+i*1))=_;rw[show 0+i*1=i by omega,hpt])) ?_;iterate 2 refine qa ?_
    have hn:=t1.n;refine mO (show Calls _ _ #[aN (msF (told i).K (told i).F (told i).R (slV (ta i) (told i).L.length)) 0 4] _ _ from VU (told i).K (told i).F (told i).R (ta i).1 (told i).L.length (ta i).2 (gL (told i).L) _ t1.K t1.F t1.R t1.L Yo t2 (t3.below H.bel)) ?_;rintro e w4 ⟨v4,rfl,o4,k4⟩;obtain⟨a4,c4,rfl,hc4⟩:=dP o4;refine⟨_,rfl,?_⟩;have hsz:=H.size;replace H:=H.add k4 (gB _ _ _ _ _ _) o4 (λj e=>(o4.lt j e).1);repeat refine qa ?_
    refine aC<|aH<|aD ?_;iterate 2 refine qa ?_
    refine aC<|fB (λh3=>?_) (λh3=>?_)
    .have hE:bW (told i).K (told i).F (told i).R (told i).L.length=0:=Xu h3;have eL:C8 (told i).K (told i).F (told i).R (told i).L.length=12+8*(told i).L.length:=by unfold C8;rw[if_pos hE]
     have hrow:World.ownsRow _ _ _ _ _ _ _:=H.o0;rw[eL] at hrow hc4;obtain⟨x1,x2,ex,s4,_⟩:=iT hrow
     cases ex
     refine aD<|qa ?_;refine mO (show Calls _ _ #[.slice a4 (C8 (told i).K (told i).F (told i).R (told i).L.length) c4] _ _ from (by rw[eL];exact aNK Y6 hE t1.L a4 c4 w4 hc4 s4)) ?_;rintro e w5 ⟨bo,bc,rfl,o5,k5⟩;refine⟨.tuple #[aN (msF (told i).K (told i).F (told i).R (.slice bo (told i).L.length bc)) 0 4,.int .i64 0],rfl,?_⟩;have hsz4:=k4.size;replace H:=H.tl.add k5 (gB _ _ _ _ _ _) (bY o5 (show w.heap.size<=_ by omega)) (λj e=>(o5.lt j e).1);iterate 3 refine qa ?_
     refine gJ H ?_;clear H;intro w6 H z6;refine fJ H.a0 aV (eY _ _ _ _ _ _) ?_;clear H;intro w7 H z7;refine qa ?_;refine aC<|aI ?_;iterate 2 refine qa ?_
     refine bI rfl Yw (λK hK=>Q8 _ _ rfl (c:=⟨told i,bo,bc⟩) Qv (λw8 m8 k8 z8=>hK _ _ ?_));replace H:=(aAz (c:=⟨told i,bo,bc⟩) H.tl k8 m8).perm (List.Perm.swap _ _ _);refine KM H (by show M.length+1<=_;omega) ?_;clear H;intro u9 w9 H;refine qa ?_;refine aC<|bQ (yX ?_);refine aI ?_;repeat refine qa ?_
     exact aS ⟨4-(i+1),Yo,i+1,_,M++[⟨told i,bo,bc⟩],Yo,Yo,YA,YB,Qv,Qv,Qv,Qv,Qv,Eq.trans Qv YC,by rw[List.map_append,hM];show _=mQ x told wo ph i++_;rw[if_neg e1,if_neg e2];unfold BS;rw[if_pos hE];rfl,H⟩
    .have hE:bW (told i).K (told i).F (told i).R (told i).L.length≠0:=Xg h3;refine aU<|bQ (yX ?_);refine aI ?_;repeat refine qa ?_
     exact aS ⟨4-(i+1),Yo,i+1,_,M,Yo,Yo,YA,YB,Qv,Qv,Qv,Qv,Qv,Eq.trans Qv YC,by rw[hM];show _=mQ x told wo ph i++_;rw[if_neg e1,if_neg e2];unfold BS;rw[if_neg hE,List.append_nil],H.tl⟩
   .have e2:(i:Int)=x.bad:=by simpa using h2
    refine aU<|aD ?_;iterate 4 refine qa ?_
    refine aC<|aK ?_;refine bX (λr A W=>∃(k:Nat) (u:Value) (M2:List Lm),k<=LL.length/\LL.length-k<=r/\A.tmps.size=89/\A.defers=[]/\A.eval (.tmp 0)=.int .i64 (wo:Int)/\A.eval (.tmp 3)=.int .i64 (ph:Int)/\A.eval (.tmp 5)=.pointer (some ⟨w.heap.size,0,none⟩)/\A.eval (.tmp 6)=.pointer (some ⟨w1.heap.size,0,none⟩)/\A.eval (.tmp 9)=u/\A.eval (.tmp 10)=.int .i64 (i:Int)/\A.eval (.tmp 51)=.slice lo LL.length lc/\A.eval (.tmp 52)=.int .i64 (LL.length:Int)/\A.eval (.tmp 53)=.int .i64 (k:Int)/\M2.map Lm.m=mQ x told wo ph i++zC x.bad wo ph ((LL.map Lj.y).take k)/\Cx w W [oC w.heap.size u M2,vhI 43 w1.heap.size 14 14 (mE x.rd x.bad (.slice lo LL.length lc)),vhI 81 w.heap.size 4 4 (λj=>.pointer (po j))]) LL.length
     ⟨0,_,M,Xz _,Yo,YA,YB,Qv,Qv,Qv,Qv,Qv,Qv,Qv,Qv,Qv,by rw[hM];exact (List.append_nil _).symm,H⟩ (λr B W hI=>?_)
    clear b0 b3 b5 b6 b9 b10 hs hd H;obtain⟨k,u,M2,hk,hr2,hs,hd,b0,b3,b5,b6,b9,b10,b51,b52,b53,hM2,H⟩:=hI;have hM2l:M2.length<=2000:=by
     have h3:=congrArg List.length hM2;rw[List.length_append,List.length_map, <-hM,List.length_map] at h3;have h4:=CY x.bad wo ph ((LL.map Lj.y).take k);rw[List.length_take,List.length_map] at h4;omega
    refine aD (aG ?_);refine qa ?_;refine aC<|aH<|fB (λh=>?_) (λh=>?_)
    .have hkn:k<LL.length:=by have:=Xu h;omega
     have hc:=List.getElem?_eq_getElem hkn;obtain⟨cc,ec⟩:∃cc,cc=LL[k]:=⟨_,rfl⟩;rw[<-ec] at hc;have hy:(LL.map Lj.y)[k]?=some cc.y:=by rw[List.getElem?_map,hc];rfl
     obtain⟨pb,pq,rfl,hcell⟩:=hj.1 Yo;have hcell:=hcell k cc hc;have hlb:=hj.2 cc (by rw[ec];exact List.getElem_mem hkn);refine aU<|aH (aK ?_);refine aD<|qg (mG _ _ _ _ rfl SlcK.out SizK.out Qv Qv rfl hkn _) ?_;refine qg (iM (g:=Y7 cc) ManyK.out (λk hk=>aM (hcell k hk) H.bel) rfl Qv) ?_;refine gJ H ?_;clear H;intro w3 H z3;refine fJ H.a0 aV (CW _ _ _ _ _) ?_;clear H;intro w4 H z4;refine aC<|aD ?_;iterate 2 refine qa ?_
     refine mO (Y6 cc.ao cc.y.n cc.cap cc.y.g _ hlb.2.2.2 hlb.2.2.1 hlb.2.1 (hlb.1.below H.bel)) ?_;rintro e w5 ⟨E,v5,hE,rfl,o5,k5⟩;obtain⟨a5,c5,rfl,hc5⟩:=dP o5;refine⟨.tuple #[aN (msF (dN E (cc.y.g 1):Nat) (dN E (cc.y.g 2):Nat) (dN E (dR cc.y.g):Nat) (.slice a5 (dN E (cc.y.g 7)) c5)) 0 4,.int .i64 E],rfl,?_⟩;have hsz:=H.size;replace H:=H.add k5 (gB _ _ _ _ _ _) (bY o5 hsz) (λj e=>(o5.lt j e).1);iterate 3 refine qa ?_
     refine gJ H ?_;clear H;intro w6 H z6;refine fJ H.a0 aV (eY _ _ _ _ _ _) ?_;clear H;intro w7 H z7;refine qa ?_;refine aC<|aD ?_;iterate 3 refine qa ?_
     by_cases h1:cc.y.ph=(ph:Int)
     .refine qg (bL (b:=true) _ _ rfl Qv Qv (Xt h1) _) ?_;iterate 4 refine qa ?_
      by_cases h2:cc.y.wo=(wo:Int)
      .refine qg (bL (b:=true) _ _ rfl Qv Qv (Xt h2) _) ?_;refine qg (aL _ _ _ rfl Qv Qv _) ?_;iterate 2 refine qa ?_
       by_cases h3:E=0
       .subst h3;refine qg (qI (b:=true) _ _ rfl Qv Qv rfl _) ?_;refine qg (aL _ _ _ rfl Qv Qv _) ?_;iterate 5 refine qa ?_
        refine qg (aL _ _ _ rfl Qv Qv _) ?_;refine aC ?_;have hdm:sS cc.y.n cc.y.g=[⟨(cc.y.g 1:Nat),(cc.y.g 2:Nat),(dR cc.y.g:Nat),(List.range (cc.y.g 7)).map (dV cc.y.g)⟩]:=by unfold sS;rw[if_pos (zR.2 hE)]
        refine fB (λh4=>?_) (λh4=>?_)
        .have hF:((cc.y.g 2:Nat):Int)=x.bad:=(Xu h4).trans e2;have hln:((List.range (cc.y.g 7)).map (dV cc.y.g)).length=cc.y.g 7:=by rw[List.length_map,List.length_range]
         refine aI ?_;iterate 2 refine qa ?_
         refine bI rfl Yw (λK hK=>Q8 _ _ rfl (c:=⟨⟨(cc.y.g 1:Nat),(cc.y.g 2:Nat),(dR cc.y.g:Nat),(List.range (cc.y.g 7)).map (dV cc.y.g)⟩,a5,c5⟩) (Eq.trans Qv (by unfold tJ lmV;rw[hln];rfl)) (λw8 m8 k8 z8=>hK _ _ ?_));replace H:=H.tl;have er:gB w.heap.size 3 1 (.slice a5 (dN 0 (cc.y.g 7)) c5) (dN 0 (cc.y.g 7)) (rowV (iF (dV cc.y.g)) (dN 0 (cc.y.g 7)))=gB w.heap.size 3 1 (lmV ⟨⟨(cc.y.g 1:Nat),(cc.y.g 2:Nat),(dR cc.y.g:Nat),(List.range (cc.y.g 7)).map (dV cc.y.g)⟩,a5,c5⟩) ((List.range (cc.y.g 7)).map (dV cc.y.g)).length (rowV (iF (gL ((List.range (cc.y.g 7)).map (dV cc.y.g)))) ((List.range (cc.y.g 7)).map (dV cc.y.g)).length):=by
          unfold lmV;dsimp only;rw[hln,gZ (λi hi=>show iF (gL ((List.range (cc.y.g 7)).map (dV cc.y.g))) i=iF (dV cc.y.g) i by unfold iF;rw[TT hi])];rfl
         rw[er] at H;replace H:=(aAz H k8 m8).f2;have H':=(H.sub (List.Sublist.cons_cons _ (List.Sublist.cons_cons _ (List.Sublist.cons _ (List.Sublist.refl _)))));refine KM H' (by show M2.length+1<=_;omega) ?_;clear H H';intro u9 w9 H;refine qa ?_;refine fD<|aI ?_;repeat refine qa ?_
         exact aS ⟨LL.length-(k+1),Yo,k+1,_,M2++[_],Yo,Yo,YA,YB,Qv,Qv,Qv,Qv,Qv,Qv,Qv,Qv,Eq.trans Qv YC,by rw[List.map_append,hM2,List.append_assoc,qK hy,if_pos ⟨h1,h2⟩,hdm];simp[hF],H⟩
        .have hF:((cc.y.g 2:Nat):Int)≠x.bad:=λe=>Xg h4 (e.trans e2.symm)
         refine fM<|aI ?_;repeat refine qa ?_
         exact aS ⟨LL.length-(k+1),Yo,k+1,_,M2,Yo,Yo,YA,YB,Qv,Qv,Qv,Qv,Qv,Qv,Qv,Qv,Eq.trans Qv YC,by rw[hM2,qK hy,if_pos ⟨h1,h2⟩,hdm];simp[hF],H.tl.tl.tl⟩
       .refine qg (qI (b:=false) _ _ rfl Qv Qv (Xf h3) _) ?_;refine qg (aL _ _ _ rfl Qv Qv _) ?_;refine qa ?_;iterate 4 refine fU ?_
        refine qg (aO _ _ _ rfl Qv Qv _) ?_;refine aC<|yV rfl (fM ?_);refine aI ?_;repeat refine qa ?_
        exact aS ⟨LL.length-(k+1),Yo,k+1,_,M2,Yo,Yo,YA,YB,Qv,Qv,Qv,Qv,Qv,Qv,Qv,Qv,Eq.trans Qv YC,by rw[hM2,qK hy,if_pos ⟨h1,h2⟩];unfold sS;rw[aCL hE h3];simp,H.tl.tl.tl⟩
      .refine qg (bL (b:=false) _ _ rfl Qv Qv (Xf h2) _) ?_;refine qg (aL _ _ _ rfl Qv Qv _) ?_;refine qa ?_;iterate 2 refine fU ?_
       refine qg (aO _ _ _ rfl Qv Qv _) ?_;refine qa ?_;iterate 4 refine fU ?_
       refine qg (aO _ _ _ rfl Qv Qv _) ?_;refine aC<|yV rfl (fM ?_);refine aI ?_;repeat refine qa ?_
       exact aS ⟨LL.length-(k+1),Yo,k+1,_,M2,Yo,Yo,YA,YB,Qv,Qv,Qv,Qv,Qv,Qv,Qv,Qv,Eq.trans Qv YC,by rw[qK hy,if_neg (λe=>h2 e.2),List.append_nil];exact hM2,H.tl.tl.tl⟩
     .refine qg (bL (b:=false) _ _ rfl Qv Qv (Xf h1) _) ?_;refine qa ?_;iterate 4 refine fU ?_
      refine qg (aO _ _ _ rfl Qv Qv _) ?_;refine qa ?_;iterate 2 refine fU ?_
      refine qg (aO _ _ _ rfl Qv Qv _) ?_;refine qa ?_;iterate 4 refine fU ?_
      refine qg (aO _ _ _ rfl Qv Qv _) ?_;refine aC<|yV rfl (fM ?_);refine aI ?_;repeat refine qa ?_
      exact aS ⟨LL.length-(k+1),Yo,k+1,_,M2,Yo,Yo,YA,YB,Qv,Qv,Qv,Qv,Qv,Qv,Qv,Qv,Eq.trans Qv YC,by rw[qK hy,if_neg (λe=>h1 e.1),List.append_nil];exact hM2,H.tl.tl.tl⟩
    .obtain rfl:k=LL.length:=by have:=Xg h;omega
     refine bQ (D5 ?_);refine aI ?_;repeat refine qa ?_
     exact aS ⟨4-(i+1),Yo,i+1,_,M2,Yo,Yo,YA,YB,Qv,Qv,Qv,Qv,Qv,Eq.trans Qv YC,by rw[hM2];show _=mQ x told wo ph i++_;rw[if_neg e1,if_pos e2,hx,List.take_of_length_le (by rw[List.length_map];exact Xr _)],H⟩
 .obtain rfl:i=4:=by have:=Xg h;omega
  refine bQ (dU ?_);refine aD ?_;repeat first|refine qa ?_|refine aC ?_
  have hO:OwnM W w.heap.size u M:=H.o0;obtain⟨mo,mc,rfl,hmc⟩:=dP hO.1;exact aW (aP YB (dW rfl Qv) ⟨mo,mc,M,rfl,hM,hO,H.bel⟩)
theorem aIH(rd:Nat->Int)(I:Nat)(hI:I<4):∀j,j<12->stP (λ_=>iV 0) (0+I*3) 3 (λa=>iV (rd a)) j=(λi=>iV ((λs a=>if s=I then rd a else 0) (i/3) (i%3))) j:=by
 have:I=0\/I=1\/I=2\/I=3:=Yo;intro j hj;rcases this with rfl|rfl|rfl|rfl
 .match j,hj with
  |0,_=>rfl
  |1,_=>rfl
  |2,_=>rfl
  |3,_=>rfl
  |4,_=>rfl
  |5,_=>rfl
  |6,_=>rfl
  |7,_=>rfl
  |8,_=>rfl
  |9,_=>rfl
  |10,_=>rfl
  |11,_=>rfl
 .match j,hj with
  |0,_=>rfl
  |1,_=>rfl
  |2,_=>rfl
  |3,_=>rfl
  |4,_=>rfl
  |5,_=>rfl
  |6,_=>rfl
  |7,_=>rfl
  |8,_=>rfl
  |9,_=>rfl
  |10,_=>rfl
  |11,_=>rfl
 .match j,hj with
  |0,_=>rfl
  |1,_=>rfl
  |2,_=>rfl
  |3,_=>rfl
  |4,_=>rfl
  |5,_=>rfl
  |6,_=>rfl
  |7,_=>rfl
  |8,_=>rfl
  |9,_=>rfl
  |10,_=>rfl
  |11,_=>rfl
 .match j,hj with
  |0,_=>rfl
  |1,_=>rfl
  |2,_=>rfl
  |3,_=>rfl
  |4,_=>rfl
  |5,_=>rfl
  |6,_=>rfl
  |7,_=>rfl
  |8,_=>rfl
  |9,_=>rfl
  |10,_=>rfl
  |11,_=>rfl
theorem sen_di{n:Nd}{rd:Nat->Int}{I:Nat}(h:n.id=(I:Int)):(λ(s a:Nat)=>if (s:Int)=n.id then rd a else 0)=λs a=>if s=I then rd a else 0:=by grind
theorem ZF:aMZ 23:=by
 intro n ao c frame rd w hok hag rF rR;have hag:Sr w ao n.vA.length c (tF (bA n)):=hag;refine bO Tryz.func23 rfl 37 rfl Yd (λA hs hd hb=>?_);have b0:A.eval (.tmp 0)=iI n (.slice ao n.vA.length c):=hb 0 _ rfl;have b1:A.eval (.tmp 1)=.int .i64 frame:=hb 1 _ rfl;have b2:A.eval (.tmp 2)=aN (λa=>iV (rd a)) 0 3:=hb 2 _ rfl;clear hb;refine aD (aG ?_);refine Zb (λw1 m1 k1 z1=>?_);have sr1:=hag.below k1;refine Zb (λw2 m2 k2 z2=>?_);have mn2:=m1.below k2;have sr2:=sr1.below k2;refine Za nD (λw3 m3 k3 z3=>?_);have mn3:=mn2.below k3;have mrd3:=m2.below k3;have sr3:=sr2.below k3;refine Za jH (λw4 m4 k4 z4=>?_);have mn4:=mn3.below k4;have mrd4:=mrd3.below k4;have mr4:=m3.below k4;have sr4:=sr3.below k4;refine aC<|aD<|Yx ?_;refine bI rfl Yw (λK hK=>bN _ 20 _ _ rfl Yf (JF _ _) (lT n ao c _ sr4 hok.vA) ?_);rintro e w5 ⟨a3,c3,rfl,o5,k5⟩;have n5:=k5.size;have mn5:=mn4.below k5;have mrd5:=mrd4.below k5;have mr5:=mr4.below k5;have mq5:=m4.below k5;refine⟨_,rfl,hK _ _ ?_⟩;refine Zs bJ mn5 (bP _ _ _ _) (λw6 mm6 k6 z6=>?_);have mn6:=Vh.congr mm6 (eX _ _);have mrd6:=mrd5.kept k6 Yo;have mr6:=mr5.kept k6 Yo;have mq6:=mq5.kept k6 Yo;have ow6:=bR o5 k6 (λe=>by have e1:=(o5.lt _ e).1;have e2:=(o5.lt _ e).2;omega);refine aC<|aH<|aD<|Yx ?_;refine bI rfl Yw (λK hK=>bN _ 43 _ _ rfl Yf (KT _ _) (oZ n _ _) ?_);rintro e w7 ⟨rfl,k7⟩;have n7:=k7.size;have mn7:=mn6.below k7;have mrd7:=mrd6.below k7;have mr7:=mr6.below k7;have mq7:=mq6.below k7;have ow7:=bK ow6 k7;refine⟨_,rfl,hK _ _ ?_⟩;refine aC ?_;have kA:Below w.heap.size w w7:=(aF ((((k1.trans (k2.mono Yo)).trans (k3.mono Yo)).trans (k4.mono Yo)).trans (k5.mono Yo)) k6 Yo Yo).trans (k7.mono Yo);refine lL (t:=jJ n.id) Yf (λhno=>?_) (λhno=>?_)
 .refine aD<|Yx ?_;refine Yq (mH rfl _) ?_;refine Zs bJ mr7 (bP _ _ _ _) (λw8 mm8 k8 z8=>?_);have mr8:=Vh.congr mm8 (eX _ _);have mn8:=mn7.kept k8 Yo;have mrd8:=mrd7.kept k8 Yo;have mq8:=mq7.kept k8 Yo;have ow8:=bR ow7 k8 (λe=>by have e1:=(o5.lt _ e).1;have e2:=(o5.lt _ e).2;omega);refine Zs dQ mq8 (eY _ _ _ _ _ _) (λw9 mm9 k9 z9=>?_);have mq9:=Vh.congr mm9 (dZ _ _);have mn9:=mn8.kept k9 Yo;have mrd9:=mrd8.kept k9 Yo;have mr9:=mr8.kept k9 Yo;have ow9:=bR ow8 k9 (λe=>by have e1:=(o5.lt _ e).1;have e2:=(o5.lt _ e).2;omega);refine aC<|aW ?_;simp only[Nx,Exit.then];refine aP YB (gG rfl Yf Yf bJ dQ mr9 (Xr _) mq9 (Xr _)) ⟨a3,c3,none,0,?_,bY ow9 Yo,?_,?_⟩
  .unfold senN kV;rw[if_pos hno,if_pos hno];rfl
  .unfold M0 kV;rw[if_pos hno];exact World.ownsRow_nil _ _ _ _
  .exact aF (aF kA k8 Yo Yo) k9 Yo Yo
 .obtain⟨h0,h3⟩:=qJ hno;obtain⟨I,hI⟩:∃I:Nat,n.id=(I:Int):=⟨n.id.toNat,Yo⟩;have hi4:I<4:=Yo;have e1:senN n frame rd={ n with fr:=frame,di:=λs a=>if s=I then rd a else 0,he:=λ_=>0 }:=by unfold senN;rw[if_neg (by rw[hno];decide),sen_di hI]
  have e2:kV n frame rd=⟨1,n.id,frame,[rd 0,rd 1,rd 2]⟩:=by unfold kV;rw[if_neg (by rw[hno];decide)]
  refine aU<|aD ?_;iterate 2 refine Yx ?_
  refine jZ Yw (λK hK=>iC _ _ _ _ rfl fZ Yf Yf mn7 Yc rfl rfl rfl (λw8 mm8 k8 z8=>hK _ ?_));have mn8:=Vh.congr mm8 (aEE _ _ _);have mrd8:=mrd7.kept k8 Yo;have mr8:=mr7.kept k8 Yo;have mq8:=mq7.kept k8 Yo;have ow8:=bR ow7 k8 (λe=>by have e1:=(o5.lt _ e).1;have e2:=(o5.lt _ e).2;omega);refine aC<|aD<|Za SF (λw9 m9 k9 z9=>?_);have mn9:=mn8.below k9;have mrd9:=mrd8.below k9;have mr9:=mr8.below k9;have mq9:=mq8.below k9;have ow9:=bK ow8 k9;refine aC<|aD ?_;iterate 2 refine Yx ?_
  refine Yq (aX _ _ rfl kG Yf mrd9 Yc) ?_;refine Yq (bD _ _ _ _ rfl Tryz.underlying32 kG.size Yf Yf hI hi4 _) ?_;refine Zs kG m9 (λj hj=>rfl) (λw10 mm10 k10 z10=>?_);have md10:=Vh.congr mm10 (aIH rd I hi4);have mn10:=mn9.kept k10 Yo;have mrd10:=mrd9.kept k10 Yo;have mr10:=mr9.kept k10 Yo;have mq10:=mq9.kept k10 Yo;have ow10:=bR ow9 k10 (λe=>by have e1:=(o5.lt _ e).1;have e2:=(o5.lt _ e).2;omega);refine aC<|aD<|Yq (aX _ _ rfl mY Yf md10 Yc) ?_;refine Yx ?_;refine Zs mY mn10 (λj hj=>rfl) (λw11 mm11 k11 z11=>?_);have mn11:=Vh.congr mm11 (aEC _ _ (λs a=>if s=I then rd a else 0));have mrd11:=mrd10.kept k11 Yo;have mr11:=mr10.kept k11 Yo;have mq11:=mq10.kept k11 Yo;have md11:=md10.kept k11 Yo;have ow11:=bR ow10 k11 (λe=>by have e1:=(o5.lt _ e).1;have e2:=(o5.lt _ e).2;omega);refine aC<|aD<|Yq (WQ rfl _) ?_;refine Yx ?_;refine Zs qM mn11 (λj hj=>rfl) (λw12 mm12 k12 z12=>?_);have mn12:=Vh.congr mm12 (aFc _ _ (λ_=>0));have mrd12:=mrd11.kept k12 Yo;have mr12:=mr11.kept k12 Yo;have mq12:=mq11.kept k12 Yo;have md12:=md11.kept k12 Yo;have ow12:=bR ow11 k12 (λe=>by have e1:=(o5.lt _ e).1;have e2:=(o5.lt _ e).2;omega);refine aC<|aH ?_;have hS0:(λW=>Vh 37 W w.heap.size 74 74 (ndF { n with fr:=frame,di:=λs a=>if s=I then rd a else 0,he:=λ_=>0 } (.slice a3 n.vA.length c3))/\Vh 31 W w1.heap.size 3 3 (λa=>iV (rd a))) w12.drew:=⟨mn12,mrd12⟩;have mr0:Vh _ w12.drew _ _ _ _:=mr12;have mq0:Vh _ w12.drew _ _ _ _:=mq12;have ow0:=(show World.ownsRow w12.drew _ _ _ _ _ _ from ow12);have ez:w12.drew.heap.size=w12.heap.size:=rfl;have kD:Below w.heap.size w w12.drew:=aT (aF (aF (aF ((aF kA k8 Yo Yo).trans (k9.mono Yo)) k10 Yo Yo) k11 Yo Yo) k12 Yo Yo);refine fG (S:=λW=>Vh 37 W w.heap.size 74 74 (ndF { n with fr:=frame,di:=λs a=>if s=I then rd a else 0,he:=λ_=>0 } (.slice a3 n.vA.length c3))/\Vh 31 W w1.heap.size 3 3 (λa=>iV (rd a))) (.rd 0 (.mv 1 (.rd 2 (.mv 3 (.mv 4 (.rd 5 (.mv 6 (.rd 7 (.mv 8 (.rd 9 (.two 10 12 (.mv 11 (.go 12 (.go 13 .fin))) (.go 10 (.mv 11 (.go 13 .fin)))))))))))))) [] Yl Yl ?_;refine Yr rfl hS0 (λ_ hS=>aX _ _ rfl bJ Yf hS.1 Yc) ?_;refine Yk rfl (λ_=>AP rfl Yf _) ?_;refine Yr rfl hS0 (λ_ hS=>aY _ _ rfl fZ Yf hS.1 Yc rfl) ?_;refine Yj ?_;refine Yk rfl (λ_=>bD _ _ _ _ rfl Tryz.underlying31 fZ.size Yf (aJ _ _) (i:=0) rfl Yc _) ?_;refine Yr rfl hS0 (λ_ hS=>aY _ _ rfl fZ Yf hS.2 Yc rfl) ?_;refine Yk rfl (λ_=>bD _ _ _ _ rfl Tryz.underlying31 fZ.size Yf (aJ _ _) (i:=1) rfl Yc _) ?_;refine Yr rfl hS0 (λ_ hS=>aY _ _ rfl fZ Yf hS.2 Yc rfl) ?_;refine Yk rfl (λ_=>bD _ _ _ _ rfl Tryz.underlying31 fZ.size Yf (aJ _ _) (i:=2) rfl Yc _) ?_;refine Yr rfl hS0 (λ_ hS=>aY _ _ rfl fZ Yf hS.2 Yc rfl) ?_;refine uW ?_ ?_
  .refine dC rfl rfl Yw (λK hK=>?_);refine CU _ _ _ _ rfl (g:=rd) Yf Yf Yf ?_;intro w13 mv13 k13 z13;have hS13:(λW=>Vh 37 W w.heap.size 74 74 (ndF { n with fr:=frame,di:=λs a=>if s=I then rd a else 0,he:=λ_=>0 } (.slice a3 n.vA.length c3))/\Vh 31 W w1.heap.size 3 3 (λa=>iV (rd a))) w13:=⟨hS0.1.below k13,hS0.2.below k13⟩;have mr13:=mr0.below k13;have mq13:=mq0.below k13;have ow13:=bK ow0 k13;refine hK _ _ (λ_ _=>hS13) ?_;clear hK K;refine Yk rfl (λ_=>rY _ _ _ _ rfl (aJ _ _) Yf Yf Yf _) ?_;refine dK rfl Yw (λK hK=>?_);refine aR _ _ _ _ rfl bJ Yf Yf mr13 Yc (bP _ _ _ _) rfl ?_;intro w14 mm14 k14 z14;have mr14:=Vh.congr mm14 (eX _ _);have hS14:(λW=>Vh 37 W w.heap.size 74 74 (ndF { n with fr:=frame,di:=λs a=>if s=I then rd a else 0,he:=λ_=>0 } (.slice a3 n.vA.length c3))/\Vh 31 W w1.heap.size 3 3 (λa=>iV (rd a))) w14:=⟨hS13.1.kept k14 Yo,hS13.2.kept k14 Yo⟩;have mq14:=mq13.kept k14 Yo;have ow14:=gT ow13 k14 Yo;have mv14:=mv13.kept k14 Yo;refine hK _ (λ_ _=>hS14) ?_;clear hK K;refine dK rfl Yw (λK hK=>?_);refine aR _ _ _ _ rfl dQ Yf Yf mq14 Yc (eY _ _ _ _ _ _) rfl ?_;intro w15 mm15 k15 z15;have mq15:=Vh.congr mm15 (dZ _ _);have hS15:(λW=>Vh 37 W w.heap.size 74 74 (ndF { n with fr:=frame,di:=λs a=>if s=I then rd a else 0,he:=λ_=>0 } (.slice a3 n.vA.length c3))/\Vh 31 W w1.heap.size 3 3 (λa=>iV (rd a))) w15:=⟨hS14.1.kept k15 Yo,hS14.2.kept k15 Yo⟩;have mr15:=mr14.kept k15 Yo;have ow15:=gT ow14 k15 Yo;have mv15:=mv14.kept k15 Yo;refine hK _ (λ_ _=>hS15) ?_;clear hK K;refine fV<|aW<|aP YB (gG rfl Yf Yf bJ dQ mr15 (Xr _) mq15 (Xr _)) ⟨a3,c3,some ⟨w12.drew.heap.size,0,none⟩,3,?_,bY ow15 Yo,?_,aF (aF (kD.trans (k13.mono Yo)) k14 Yo Yo) k15 Yo Yo⟩
   .rw[e1,e2];rfl
   .unfold M0;rw[e2];exact Vh.owns (Vh.congr mv15 (λi hi=>(by
     match i,hi with
     |0,_=>rfl
     |1,_=>rfl
     |2,_=>rfl))) Yo
  .refine dK rfl Yw (λK hK=>?_);refine aR _ _ _ _ rfl bJ Yf Yf mr0 Yc (bP _ _ _ _) rfl ?_;intro w13 mm13 k13 z13;have mr13:=Vh.congr mm13 (eX _ _);have hS13:(λW=>Vh 37 W w.heap.size 74 74 (ndF { n with fr:=frame,di:=λs a=>if s=I then rd a else 0,he:=λ_=>0 } (.slice a3 n.vA.length c3))/\Vh 31 W w1.heap.size 3 3 (λa=>iV (rd a))) w13:=⟨hS0.1.kept k13 Yo,hS0.2.kept k13 Yo⟩;have mq13:=mq0.kept k13 Yo;have ow13:=gT ow0 k13 Yo;refine hK _ (λ_ _=>hS13) ?_;clear hK K;refine dC rfl rfl Yw (λK hK=>?_);refine CU _ _ _ _ rfl (g:=rd) Yf Yf Yf ?_;intro w14 mv14 k14 z14;have hS14:(λW=>Vh 37 W w.heap.size 74 74 (ndF { n with fr:=frame,di:=λs a=>if s=I then rd a else 0,he:=λ_=>0 } (.slice a3 n.vA.length c3))/\Vh 31 W w1.heap.size 3 3 (λa=>iV (rd a))) w14:=⟨hS13.1.below k14,hS13.2.below k14⟩;have mr14:=mr13.below k14;have mq14:=mq13.below k14;have ow14:=bK ow13 k14;refine hK _ _ (λ_ _=>hS14) ?_;clear hK K;refine Yk rfl (λ_=>rY _ _ _ _ rfl (aJ _ _) Yf Yf Yf _) ?_;refine dK rfl Yw (λK hK=>?_);refine aR _ _ _ _ rfl dQ Yf Yf mq14 Yc (eY _ _ _ _ _ _) rfl ?_;intro w15 mm15 k15 z15;have mq15:=Vh.congr mm15 (dZ _ _);have hS15:(λW=>Vh 37 W w.heap.size 74 74 (ndF { n with fr:=frame,di:=λs a=>if s=I then rd a else 0,he:=λ_=>0 } (.slice a3 n.vA.length c3))/\Vh 31 W w1.heap.size 3 3 (λa=>iV (rd a))) w15:=⟨hS14.1.kept k15 Yo,hS14.2.kept k15 Yo⟩;have mr15:=mr14.kept k15 Yo;have ow15:=gT ow14 k15 Yo;have mv15:=mv14.kept k15 Yo;refine hK _ (λ_ _=>hS15) ?_;clear hK K;refine fV<|aW<|aP YB (gG rfl Yf Yf bJ dQ mr15 (Xr _) mq15 (Xr _)) ⟨a3,c3,some ⟨w13.heap.size,0,none⟩,3,?_,bY ow15 Yo,?_,aF ((aF kD k13 Yo Yo).trans (k14.mono Yo)) k15 Yo Yo⟩
   .rw[e1,e2];rfl
   .unfold M0;rw[e2];exact Vh.owns (Vh.congr mv15 (λi hi=>(by
     match i,hi with
     |0,_=>rfl
     |1,_=>rfl
     |2,_=>rfl))) Yo
theorem kT(b cap n:Nat)(f:Nat->Int)(hc:n<=cap)(hm:cap<=1099511627776)(w:World)(hr:Row w b n f):Calls Tryz.prog 164 #[.slice (some ⟨b,0,none⟩) n cap] w λe w'=>∃m:Nat,e=.returned (.slice (some ⟨b,0,none⟩) m cap)/\m<=n/\(∀i,m<=i->i<n->f i=0)/\Nm m f/\w'=w:=by
 have HR:=aB hr;clear hr;go_enter Tryz.func164,Tryz.ntmps164
 go_wp2_with fail
 go_loop [3] (λi=>∃m:Nat,i=.int .i64 m/\m<=n/\∀i,m<=i->i<n->f i=0) (λi=>(intOf i).toNat)
 case atStart=>exact⟨n,rfl,Xr _,λi hi h2=>by omega⟩
 case round=>
  obtain⟨m,rfl,hm2,hz⟩:=hrel;have HZ:=aB hz;clear hz;by_cases h0:m=0
  .subst h0;go_wp2_with fail
   go_ret
   exact⟨0,rfl,Yo,aA HZ,Or.inl rfl,rfl⟩
  .obtain⟨k,rfl⟩:∃k,m=k+1:=⟨m-1,Yo⟩;have hcell:=aA HR k Yo;by_cases hx:f k=0
   .have ht:(f k==0)=true:=by simpa using hx
    have HX:=aB hx;clear hx h0;go_wp2_with fail
    go_round
    case rel=>exact⟨k,by go_num,Yo,λi hi h2=>by
     rcases Nat.lt_or_ge k i with h|h
     .exact aA HZ i Yo h2
     .have:i=k:=Yo;subst this;exact aA HX⟩
    case measure=>simp[intOf]
   .have ht:(f k==0)=false:=by simpa using hx
    have HX:=aB hx;clear hx h0;go_wp2_with fail
    go_ret
    exact⟨k+1,rfl,Yo,aA HZ,Or.inr (aA HX),rfl⟩
theorem yP(x:Int)(x0:0<=x)(x1:x<18446744073709551616)(w:World):Calls Tryz.prog 163 #[.int .u64 x] w λe w'=>∃(v:Value) (m:Nat) (f:Nat->Int),e=.returned v/\Sl w' v m f/\Wd m f/\Nm m f/\val f m=x/\Below w.heap.size w w':=by
 go_enter Tryz.func163,Tryz.ntmps163
 go_wp2_with fail
 have hr:Row (w.alloc (.cells #[.int .u32 (x%4294967296),.int .u32 (x/4294967296)] 200)) w.heap.size 2 (λi=>if i=0 then x%4294967296 else x/4294967296):=by
  intro i hi;rw[World.cell?_alloc_new]
  match i,hi with
  |0,_=>rfl
  |1,_=>rfl
 refine (kT w.heap.size 2 2 _ Yc Yc _ hr).mono ?_;rintro e w1 ⟨m,rfl,hm,hz,hn,rfl⟩;have hw:Wd 2 (λi=>if i=0 then x%4294967296 else x/4294967296):=by
  intro i hi
  match i,hi with
  |0,_=>exact⟨by show 0<=x%4294967296;omega,by show x%4294967296<4294967296;omega⟩
  |1,_=>exact⟨by show 0<=x/4294967296;omega,by show x/4294967296<4294967296;omega⟩
 have hv:val (λi=>if i=0 then x%4294967296 else x/4294967296) 2=x:=by
  show 0+x%4294967296*4294967296^0+x/4294967296*4294967296^1=x
  simp only[Int.reducePow];omega
 rw[fQ hm hz] at hv;have F:=aB (show ∃(v:Value) (m':Nat) (f:Nat->Int),Ending.returned (Value.slice (some ⟨w.heap.size,0,none⟩) m 2)=Ending.returned v/\Sl (w.alloc (.cells #[.int .u32 (x%4294967296),.int .u32 (x/4294967296)] 200)) v m' f/\Wd m' f/\Nm m' f/\val f m'=x/\Below w.heap.size w (w.alloc (.cells #[.int .u32 (x%4294967296),.int .u32 (x/4294967296)] 200)) from
  ⟨_,m,_,rfl,Or.inr ⟨w.heap.size,2,rfl,hm,by decide,by simp,hr.less hm⟩,hw.less hm,hn,hv,(Below.refl _ _).alloc (Xr _) _⟩)
 clear hr hw hv hn hz;go_wp2_with fail
 go_ret
 exact aA F
def IntAt(w:World)(b:Nat)(s v:Value):Prop:=w.heap[b]?=some (.cells #[s,v] 172 (0,0))
variable{v s:Value}{b:Nat}
theorem IntAt.cell0(h:IntAt w b s v):w.cell? ⟨b,0,none⟩=some s:=by
 unfold IntAt at h;simp[World.cell?,h]
theorem IntAt.cell1(h:IntAt w b s v):w.cell? ⟨b,1,none⟩=some v:=by
 unfold IntAt at h;simp[World.cell?,h]
theorem IntAt.free(h:IntAt w b s v)(i:Nat):w.frozen? ⟨b,i,none⟩=false:=by
 unfold IntAt at h;simp[World.frozen?,h]
theorem IntAt.lt(h:IntAt w b s v):b<w.heap.size:=lt_of_block h
variable{z:Nat}
theorem IntAt.kept(h:IntAt w b s v)(k:Kept z w w')(hz:b≠z):IntAt w' b s v:=by
 unfold IntAt at h ⊢;rw[k.block b (lt_of_block h) hz];exact h
theorem IntAt.below(h:IntAt w b s v)(k:Below w.heap.size w w'):IntAt w' b s v:=by
 unfold IntAt at h ⊢;rw[k.block b (lt_of_block h)];exact h
theorem Kept.refl(z:Nat)(w:World):Kept z w w:=⟨rfl,rfl,rfl,Xr _,λ_ _ _=>rfl⟩
theorem Kept.setCell{a:World}(h:Kept z a w)(i:Nat)(u:Value):Kept z a (w.setCell ⟨z,i,none⟩ u):=
 ⟨h.os,h.tape,h.output,by simpa [World.setCell] using h.size,λk hk hn=>(heap_setCell_other w ⟨z,i,none⟩ k u hn).trans (h.block k hk hn)⟩
variable{v0:Value}
theorem KU{n0:Value}(hz:IntAt w z n0 v0)(s v:Value):IntAt ((w.setCell ⟨z,1,none⟩ v).setCell ⟨z,0,none⟩ s) z s v:=by
 unfold IntAt at hz ⊢;have h1:=heap_setCell_same w z 1 _ _ v hz;have h2:=heap_setCell_same _ z 0 _ _ s h1;exact h2
theorem nI(z n cap:Nat)(ao:Option Addr)(neg:Bool)(n0 v0:Value)(w:World)(hz:IntAt w z n0 v0):Calls Tryz.prog 111 #[.pointer (some ⟨z,0,none⟩),.bool neg,.slice ao n cap] w λe w'=>e=.returned (.pointer (some ⟨z,0,none⟩))/\IntAt w' z (.bool (neg&&decide (0<n))) (.slice ao n cap)/\Kept z w w':=by
 have c0:=hz.cell0;have c1:=hz.cell1;have f0:=hz.free 0;have f1:=hz.free 1;have HZ:=aB hz;clear hz
 cases neg
 .go_enter Tryz.func111,Tryz.ntmps111
  go_wp2_with fail
  go_ret
  exact⟨rfl,KU (aA HZ) _ _,((Kept.refl z w).setCell 1 _).setCell 0 _⟩
 .go_enter Tryz.func111,Tryz.ntmps111
  go_wp2_with fail
  go_ret
  exact⟨rfl,KU (aA HZ) _ _,((Kept.refl z w).setCell 1 _).setCell 0 _⟩
def Num(w:World)(b:Nat)(x:Int):Prop:=
 ∃(neg:Bool) (v:Value) (n:Nat) (f:Nat->Int),IntAt w b (.bool neg) v/\Sl w v n f/\Wd n f/\Nm n f/\x=cZ neg (val f n)/\(n=0->neg=false)
variable{n:Nat}{f:Nat->Int}{s0:Bool}
theorem Sl.other(h:Sl w v n f)(k:Kept z w w')(hz:IntAt w z (.bool s0) v0):Sl w' v n f:=by
 rcases h with h|⟨b,cap,hv,h1,h2,h3,h4⟩
 .exact Or.inl h
 .rcases Nat.eq_zero_or_pos n with h0|h0
  .subst h0;exact Or.inr ⟨b,cap,hv,h1,h2,Nat.lt_of_lt_of_le h3 k.size,λi hi=>absurd hi Yo⟩
  .have hb:b≠z:=by
    intro e;subst e;have c:=h4 0 h0;rw[hz.cell0] at c
    cases c
   exact Or.inr ⟨b,cap,hv,h1,h2,Nat.lt_of_lt_of_le h3 k.size,h4.same (k.block b h3 hb)⟩
variable{x:Int}
theorem Num.lt(h:Num w b x):b<w.heap.size:=by
 obtain⟨neg,v,n,f,h, -⟩:=h;exact h.lt
theorem Num.other(h:Num w b x)(k:Kept z w w')(hb:b≠z)(hz:IntAt w z (.bool s0) v0):Num w' b x:=by
 obtain⟨neg,v,n,f,h1,h2,h3,h4,h5,h6⟩:=h;exact⟨neg,v,n,f,h1.kept k hb,h2.other k hz,h3,h4,h5,h6⟩
theorem Num.below(h:Num w b x)(k:Below w.heap.size w w'):Num w' b x:=by
 obtain⟨neg,v,n,f,h1,h2,h3,h4,h5,h6⟩:=h;exact⟨neg,v,n,f,h1.below k,h2.below k,h3,h4,h5,h6⟩
theorem wO(hw:Wd n f)(hn:Nm n f)(h:n≠0):0<val f n:=by
 obtain⟨m,rfl⟩:∃m,n=m+1:=⟨n-1,Yo⟩;have:=VP hw (by rcases hn with h|h;exact absurd h Yo;exact h);have:=pow_pos m;omega
theorem jL{neg:Bool}(h:IntAt w z (.bool (neg&&decide (0<n))) v)(hs:Sl w v n f)(hw:Wd n f)(hn:Nm n f):Num w z (cZ neg (val f n)):=by
 refine⟨_,v,n,f,h,hs,hw,hn,?_,?_⟩
 .rcases Nat.eq_zero_or_pos n with h0|h0
  .subst h0;cases neg<;>rfl
  .rw[Xt h0];simp
 .intro h0;subst h0;simp
theorem TL(z:Nat)(x:Int)(hx:R64 x)(s0:Bool)(v0:Value)(w:World)(hz:IntAt w z (.bool s0) v0):Calls Tryz.prog 136 #[.pointer (some ⟨z,0,none⟩),.int .i64 x] w λe w'=>e=.returned (.pointer (some ⟨z,0,none⟩))/\Num w' z x/\Kept z w w':=by
 have HZ:=aB hz;obtain⟨a1,a2⟩:=hx;clear hz;by_cases h:x<0
 .have e1:Hid (IntKind.u64.wrap (-IntKind.u64.wrap x)= -x):=by show _=_;rw[IntKind.wrap_u64,IntKind.wrap_u64];omega
  go_enter Tryz.func136,Tryz.ntmps136
  go_wp2_with fail
  rw[aA e1];refine (yP (-x) Yo Yo _).mono ?_;rintro e w1 ⟨v,m,f,rfl,hs,hw,hn,hv,hb⟩;have H1:=aB hs;have H2:=aB hw;have H3:=aB hn;have H4:=aB hv;have H5:=aB hb;rcases hs with ⟨rfl,rfl⟩|⟨b,cap,rfl, -, -, -, -⟩;all_goals
   clear hw hn hv hb;go_wp2_with fail
   refine (nI z _ _ _ true _ _ _ ((aA HZ).below (aA H5))).mono ?_;rintro e w2 ⟨rfl,hi,hk⟩;have F:=aB (show Num w2 z x/\Kept z w w2 from by
    have hsl:=(aA H1).other hk ((aA HZ).below (aA H5));have hnum:=jL hi hsl (aA H2) (aA H3);rw[aA H4] at hnum;have e2:cZ true (-x)=x:=by show- -x=x;omega
    rw[e2] at hnum;exact⟨hnum,(Kept.of_below (aA H5)).trans hk (Or.inl rfl)⟩)
   clear hi hk;go_wp2_with fail
   go_ret
   exact⟨rfl,(aA F).1,(aA F).2⟩
 .go_enter Tryz.func136,Tryz.ntmps136
  go_wp2_with fail
  refine (yP x Yo Yo _).mono ?_;rintro e w1 ⟨v,m,f,rfl,hs,hw,hn,hv,hb⟩;have H1:=aB hs;have H2:=aB hw;have H3:=aB hn;have H4:=aB hv;have H5:=aB hb;rcases hs with ⟨rfl,rfl⟩|⟨b,cap,rfl, -, -, -, -⟩;all_goals
   clear hw hn hv hb;go_wp2_with fail
   refine (nI z _ _ _ false _ _ _ ((aA HZ).below (aA H5))).mono ?_;rintro e w2 ⟨rfl,hi,hk⟩;have F:=aB (show Num w2 z x/\Kept z w w2 from by
    have hsl:=(aA H1).other hk ((aA HZ).below (aA H5));have hnum:=jL hi hsl (aA H2) (aA H3);rw[aA H4] at hnum;exact⟨hnum,(Kept.of_below (aA H5)).trans hk (Or.inl rfl)⟩)
   clear hi hk;go_wp2_with fail
   go_ret
   exact⟨rfl,(aA F).1,(aA F).2⟩
theorem jS(w:World):IntAt (w.alloc (.cells #[.bool false,.slice none 0 0] 172)) w.heap.size (.bool false) (.slice none 0 0):=by
 unfold IntAt;show (w.heap.push _)[w.heap.size]?=_
 rw[Array.getElem?_push_size]
theorem eO(w:World)(o:Obj):Below w.heap.size w (w.alloc o):=(Below.refl _ _).alloc (Xr _) _
theorem uB{w2:World}{o:Obj}(k:Kept w.heap.size (w.alloc o) w2):Below w.heap.size w w2:=
 ((Kept.of_below (z:=w.heap.size) (eO w o)).trans k (Or.inl rfl)).below (Xr _)
theorem F5(x:Int)(hx:R64 x)(w:World):Calls Tryz.prog 110 #[.int .i64 x] w λe w'=>∃b:Nat,e=.returned (.pointer (some ⟨b,0,none⟩))/\w.heap.size<=b/\Num w' b x/\Below w.heap.size w w':=by
 have HX:=aB hx;clear hx;go_enter Tryz.func110,Tryz.ntmps110
 go_wp2_with fail
 refine (TL _ x (aA HX) _ _ _ (jS w)).mono ?_;rintro e w2 ⟨rfl,hn,hk⟩;have F:=aB (show Num w2 w.heap.size x/\Below w.heap.size w w2 from ⟨hn,uB hk⟩);clear hn hk;go_wp2_with fail
 go_ret
 exact⟨w.heap.size,rfl,Xr _,(aA F).1,(aA F).2⟩
theorem jI(x:Int)(hx:R64 x)(w:World):Calls Tryz.prog 81 #[.int .i64 x] w λe w'=>∃b:Nat,e=.returned (.pointer (some ⟨b,0,none⟩))/\w.heap.size<=b/\Num w' b x/\Below w.heap.size w w':=by
 have HX:=aB hx;obtain⟨x1,x2⟩:=hx;go_enter Tryz.func81,Tryz.ntmps81
 go_wp2_with fail
 refine (F5 x (aA HX) _).mono ?_;rintro e w2 ⟨b,rfl,hb,hn,hk⟩;have F:=aB (show w.heap.size<=b/\Num w2 b x/\Below w.heap.size w w2 from ⟨hb,hn,hk⟩);clear hb hn hk;go_wp2_with fail
 go_ret
 exact⟨b,rfl,(aA F).1,(aA F).2.1,(aA F).2.2⟩
theorem Tryz.infoU32:(Tryz.prog.info? 200).map (λi=>(i.zero,i.size,i.bytes))=some (some (.int .u32 0),1,4):=Yl
def Own(w:World)(b N:Nat)(g:Nat->Int):Prop:=w.rowIs b 200 N (λj=>.int .u32 (g j))
def upd(g:Nat->Int)(k:Nat)(x:Int):Nat->Int:=λj=>if j=k then x else g j
theorem J8(g:Nat->Int)(k:Nat)(x:Int):upd g k x k=x:=if_pos rfl
variable{k:Nat}
theorem iE(g:Nat->Int){j:Nat}(x:Int)(h:j≠k):upd g k x j=g j:=if_neg h
theorem mX(g:Nat->Int)(k:Nat)(x:Int):val (upd g k x) (k+1)=val g k+x*4294967296^k:=by
 show val (upd g k x) k+upd g k x k*4294967296^k=_
 rw[J8,sP (λi hi=>iE g x Yo)]
theorem Wd.upd(h:Wd k g)(h0:0<=x)(h1:x<4294967296):Wd (k+1) (upd g k x):=by
 intro i hi;rcases Nat.lt_or_ge i k with h2|h2
 .rw[iE g x Yo];exact h i h2
 .have:i=k:=Yo;subst this;rw[J8];exact⟨h0,h1⟩
variable{N:Nat}
theorem Own.set(h:Own w b N g)(k:Nat)(x:Int):Own (w.setCell ⟨b,k,none⟩ (.int .u32 x)) b N (upd g k x):=by
 have h2:=World.rowIs.set h k (.int .u32 x);have e:(λj=>if j=k then Value.int .u32 x else (λj=>Value.int .u32 (g j)) j)=λj=>Value.int .u32 (upd g k x j):=by
  funext j
  show (if j=k then Value.int .u32 x else Value.int .u32 (g j))=Value.int .u32 (if j=k then x else g j)
  split<;>rfl
 rw[e] at h2;exact h2
theorem Own.cell(h:Own w b N g)(hi:i<N):w.cell? ⟨b,i,none⟩=some (.int .u32 (g i)):=World.rowIs.cell h hi
theorem Own.free(h:Own w b N g)(i:Nat):w.frozen? ⟨b,i,none⟩=false:=World.rowIs.frozen h i
theorem Own.row(h:Own w b N g):Row w b N g:=λ_ hi=>h.cell hi
theorem Own.lt(h:Own w b N g):b<w.heap.size:=World.rowIs.lt h
theorem qG(w:World)(N:Nat):Own (w.alloc (.cells (madeCells #[.int .u32 0] N) 200)) w.heap.size N (λ_=>0):=World.rowIs_made w (.int .u32 0) N 200
def Has(w:World)(ao:Option Addr)(n:Nat)(f:Nat->Int):Prop:=0<n->∃b,ao=some ⟨b,0,none⟩/\b<w.heap.size/\Row w b n f
variable{ao:Option Addr}
theorem Has.below(h:Has w ao n f)(k:Below w.heap.size w w'):Has w' ao n f:=by
 intro hn;obtain⟨b,e,h1,h2⟩:=h hn;exact⟨b,e,Nat.lt_of_lt_of_le h1 k.size,h2.same (k.block b h1)⟩
theorem Has.below'(h:Has w ao n f)(k:Below w.heap.size w w')(hn:0<n):∃b,ao=some ⟨b,0,none⟩/\b<w.heap.size/\Row w' b n f:=by
 obtain⟨b,e,h1,h2⟩:=h hn;exact⟨b,e,h1,h2.same (k.block b h1)⟩
theorem Sl.view(h:Sl w v n f):∃ao cap,v=.slice ao n cap/\n<=cap/\cap<=9223372036854775807/\Has w ao n f:=by
 rcases h with ⟨rfl,rfl⟩|⟨b,cap,rfl,h1,h2,h3,h4⟩
 .exact⟨none,0,rfl,Xr _,by decide,λh=>absurd h Yo⟩
 .exact⟨_,cap,rfl,h1,h2,λ_=>⟨b,rfl,h3,h4⟩⟩
def rP(m:Nat)(f:Nat->Int):Nat->Int:=λi=>if i<m then f i else 0
theorem CZ(f:Nat->Int){m:Nat}(h:m<=n):val (rP m f) n=val f m:=by
 have e1:val (rP m f) n=val (rP m f) m:=fQ h (λi h1 _=>if_neg (show ¬i<m by omega));have e2:val (rP m f) m=val f m:=sP (λi hi=>if_pos hi);rw[e1,e2]
theorem xL{fa fb:Nat->Int}{c t:Int}(h:val g k+c*4294967296^k=val fa k+val fb k)(ht:t=c+fa k+fb k):val (upd g k (t%4294967296)) (k+1)+t/4294967296*4294967296^(k+1)=val fa (k+1)+val fb (k+1):=by
 rw[mX];show _=val fa k+fa k*4294967296^k+(val fb k+fb k*4294967296^k)
 have e:t*4294967296^k=c*4294967296^k+fa k*4294967296^k+fb k*4294967296^k:=by rw[ht,Int.add_mul,Int.add_mul]
 have e2:t%4294967296*4294967296^k+t/4294967296*4294967296^(k+1)=t*4294967296^k:=by
  rw[Int.pow_succ,Int.mul_comm (4294967296^k) 4294967296, <-Int.mul_assoc, <-Int.add_mul]
  congr 1;omega
 omega
theorem aGT(ao bo:Option Addr)(n m capa capb:Nat)(fa fb:Nat->Int)(hmn:m<=n)(hn:n<=549755813888)(w:World)(ha:Has w ao n fa)(hb:Has w bo m fb)(wa:Wd n fa)(wb:Wd m fb):Calls Tryz.prog 137 #[.slice ao n capa,.slice bo m capb] w λe w'=>∃(v:Value) (l:Nat) (f:Nat->Int),e=.returned v/\Sl w' v l f/\Wd l f/\Nm l f/\val f l=val fa n+val fb m/\l<=n+1/\Below w.heap.size w w':=by
 have hmk:=λwx=>run_make_row' (P:=Tryz.prog) 168 200 (.int .u32 0) 4 Tryz.underlying168 Tryz.infoU32 rfl .i64 .i64 (n+1) Yo Yo wx
 rw[show ((n+1:Nat):Int)=(n:Int)+1 by omega] at hmk;have HA:=aB ha;have HB:=aB hb;have WA:=aB wa;have WB:=aB wb;clear ha hb wa wb;go_enter Tryz.func137,Tryz.ntmps137
 go_wp2_with fail
 clear hmk
 go_loopw [6,7] (λcs is wr=>∃(k:Nat) (c:Int) (g:Nat->Int),is=.int .i64 k/\cs=.int .u64 c/\k<=n/\0<=c/\c<=1/\Own wr w.heap.size (n+1) g/\Wd k g/\val g k+c*4294967296^k=val fa k+val (rP m fb) k/\Below w.heap.size w wr)
  (λ_ is _=>n-(intOf is).toNat)
 case atStart=>exact⟨0,0,_,rfl,rfl,Xz _,Int.le_refl _,by decide,qG w (n+1),λi hi=>absurd hi Yo,rfl,eO w _⟩
 case round=>
  obtain⟨k,c,g,rfl,rfl,hk,c0,c1,hO,hW,hv,hBl⟩:=hrel;have HO:=aB hO;have HW:=aB hW;have HV:=aB hv;have HBl:=aB hBl;clear hO hW hv hBl;by_cases hkn:k<n
  .obtain⟨ba,rfl,hba,hra⟩:=Has.below' (aA HA) (aA HBl) Yo;have ca:=hra k hkn;have co:=(aA HO).cell (show k<n+1 by omega);have fo:=(aA HO).free k;obtain⟨a0,a1⟩:=aA WA k hkn;clear hra;by_cases hkm:k<m
   .obtain⟨bb,rfl,hbb,hrb⟩:=Has.below' (aA HB) (aA HBl) Yo;have cb:=hrb k hkm;obtain⟨b0,b1⟩:=aA WB k hkm;have HS:=aB (xL (t:=c+fa k+fb k) (aA HV) (by show _=c+fa k+(if k<m then fb k else 0);rw[if_pos hkm]));clear hrb;go_wp2_with fail
    go_roundw
    case rel=>exact⟨k+1,_,_,by go_num,rfl,Yo,Yo,Yo,(aA HO).set k _,(aA HW).upd Yo Yo,aA HS,(aA HBl).setCell (Xr _) _⟩
    case measure=>simp[intOf];omega
   .have HS:=aB (xL (t:=c+fa k) (aA HV) (by show _=c+fa k+(if k<m then fb k else 0);rw[if_neg hkm];omega));go_wp2_with fail
    go_roundw
    case rel=>exact⟨k+1,_,_,by go_num,rfl,Yo,Yo,Yo,(aA HO).set k _,(aA HW).upd Yo Yo,aA HS,(aA HBl).setCell (Xr _) _⟩
    case measure=>simp[intOf];omega
  .have hkn2:k=n:=Yo;subst hkn2;have co:=(aA HO).cell (show k<k+1 by omega);have fo:=(aA HO).free k;have hr:=((aA HO).set k c).row;have hwd:=(aA HW).upd c0 (show c<4294967296 by omega);have hval:val (upd g k c) (k+1)=val fa k+val fb m:=by rw[mX,aA HV,CZ fb hmn]
   have HR:=aB hr;have HWD:=aB hwd;have HVAL:=aB hval;have HOL:=aB ((aA HO).set k c).lt;clear hr hwd hval;go_wp2_with fail
   refine (kT w.heap.size (k+1) (k+1) (upd g k c) (Xr _) Yo _ (aA HR)).mono ?_;rintro e w1 ⟨l,rfl,hl,hz,hnm,rfl⟩;have F:=aB (show Sl (wr.setCell ⟨w.heap.size,k,none⟩ (.int .u32 c)) (.slice (some ⟨w.heap.size,0,none⟩) l (k+1)) l (upd g k c)/\Wd l (upd g k c)/\Nm l (upd g k c)/\val (upd g k c) l=val fa k+val fb m/\l<=k+1/\Below w.heap.size w (wr.setCell ⟨w.heap.size,k,none⟩ (.int .u32 c)) from
    ⟨Or.inr ⟨_,_,rfl,hl,Yo,aA HOL,(aA HR).less hl⟩,(aA HWD).less hl,hnm,by rw[<-fQ hl hz];exact aA HVAL,hl,(aA HBl).setCell (Xr _) _⟩)
   clear hz hnm;go_wp2_with fail
   go_ret
   exact⟨_,l,_,rfl,aA F⟩
theorem aHF(ao bo:Option Addr)(n m capa capb:Nat)(fa fb:Nat->Int)(hmn:m<n)(hn:n<=549755813888)(w:World)(ha:Has w ao n fa)(hb:Has w bo m fb)(wa:Wd n fa)(wb:Wd m fb):Calls Tryz.prog 137 #[.slice bo m capb,.slice ao n capa] w λe w'=>∃(v:Value) (l:Nat) (f:Nat->Int),e=.returned v/\Sl w' v l f/\Wd l f/\Nm l f/\val f l=val fa n+val fb m/\l<=n+1/\Below w.heap.size w w':=by
 have hmk:=λwx=>run_make_row' (P:=Tryz.prog) 168 200 (.int .u32 0) 4 Tryz.underlying168 Tryz.infoU32 rfl .i64 .i64 (n+1) Yo Yo wx
 rw[show ((n+1:Nat):Int)=(n:Int)+1 by omega] at hmk;have HA:=aB ha;have HB:=aB hb;have WA:=aB wa;have WB:=aB wb;clear ha hb wa wb;go_enter Tryz.func137,Tryz.ntmps137
 go_wp2_with fail
 clear hmk
 go_loopw [6,7] (λcs is wr=>∃(k:Nat) (c:Int) (g:Nat->Int),is=.int .i64 k/\cs=.int .u64 c/\k<=n/\0<=c/\c<=1/\Own wr w.heap.size (n+1) g/\Wd k g/\val g k+c*4294967296^k=val fa k+val (rP m fb) k/\Below w.heap.size w wr)
  (λ_ is _=>n-(intOf is).toNat)
 case atStart=>exact⟨0,0,_,rfl,rfl,Xz _,Int.le_refl _,by decide,qG w (n+1),λi hi=>absurd hi Yo,rfl,eO w _⟩
 case round=>
  obtain⟨k,c,g,rfl,rfl,hk,c0,c1,hO,hW,hv,hBl⟩:=hrel;have HO:=aB hO;have HW:=aB hW;have HV:=aB hv;have HBl:=aB hBl;clear hO hW hv hBl;by_cases hkn:k<n
  .obtain⟨ba,rfl,hba,hra⟩:=Has.below' (aA HA) (aA HBl) Yo;have ca:=hra k hkn;have co:=(aA HO).cell (show k<n+1 by omega);have fo:=(aA HO).free k;obtain⟨a0,a1⟩:=aA WA k hkn;clear hra;by_cases hkm:k<m
   .obtain⟨bb,rfl,hbb,hrb⟩:=Has.below' (aA HB) (aA HBl) Yo;have cb:=hrb k hkm;obtain⟨b0,b1⟩:=aA WB k hkm;have HS:=aB (xL (t:=c+fa k+fb k) (aA HV) (by show _=c+fa k+(if k<m then fb k else 0);rw[if_pos hkm]));clear hrb;go_wp2_with fail
    go_roundw
    case rel=>exact⟨k+1,_,_,by go_num,rfl,Yo,Yo,Yo,(aA HO).set k _,(aA HW).upd Yo Yo,aA HS,(aA HBl).setCell (Xr _) _⟩
    case measure=>simp[intOf];omega
   .have HS:=aB (xL (t:=c+fa k) (aA HV) (by show _=c+fa k+(if k<m then fb k else 0);rw[if_neg hkm];omega));go_wp2_with fail
    go_roundw
    case rel=>exact⟨k+1,_,_,by go_num,rfl,Yo,Yo,Yo,(aA HO).set k _,(aA HW).upd Yo Yo,aA HS,(aA HBl).setCell (Xr _) _⟩
    case measure=>simp[intOf];omega
  .have hkn2:k=n:=Yo;subst hkn2;have co:=(aA HO).cell (show k<k+1 by omega);have fo:=(aA HO).free k;have hr:=((aA HO).set k c).row;have hwd:=(aA HW).upd c0 (show c<4294967296 by omega);have hval:val (upd g k c) (k+1)=val fa k+val fb m:=by rw[mX,aA HV,CZ fb (Nat.le_of_lt hmn)]
   have HR:=aB hr;have HWD:=aB hwd;have HVAL:=aB hval;have HOL:=aB ((aA HO).set k c).lt;clear hr hwd hval;go_wp2_with fail
   refine (kT w.heap.size (k+1) (k+1) (upd g k c) (Xr _) Yo _ (aA HR)).mono ?_;rintro e w1 ⟨l,rfl,hl,hz,hnm,rfl⟩;have F:=aB (show Sl (wr.setCell ⟨w.heap.size,k,none⟩ (.int .u32 c)) (.slice (some ⟨w.heap.size,0,none⟩) l (k+1)) l (upd g k c)/\Wd l (upd g k c)/\Nm l (upd g k c)/\val (upd g k c) l=val fa k+val fb m/\l<=k+1/\Below w.heap.size w (wr.setCell ⟨w.heap.size,k,none⟩ (.int .u32 c)) from
    ⟨Or.inr ⟨_,_,rfl,hl,Yo,aA HOL,(aA HR).less hl⟩,(aA HWD).less hl,hnm,by rw[<-fQ hl hz];exact aA HVAL,hl,(aA HBl).setCell (Xr _) _⟩)
   clear hz hnm;go_wp2_with fail
   go_ret
   exact⟨_,l,_,rfl,aA F⟩
theorem aEO(va vb:Value)(n m:Nat)(fa fb:Nat->Int)(hn:n<=549755813888)(hm:m<=549755813888)(w:World)(ha:Sl w va n fa)(hb:Sl w vb m fb)(wa:Wd n fa)(wb:Wd m fb):Calls Tryz.prog 137 #[va,vb] w λe w'=>∃(v:Value) (l:Nat) (f:Nat->Int),e=.returned v/\Sl w' v l f/\Wd l f/\Nm l f/\val f l=val fa n+val fb m/\l<=max n m+1/\Below w.heap.size w w':=by
 obtain⟨ao,capa,rfl, -, -,ha⟩:=ha.view;obtain⟨bo,capb,rfl, -, -,hb⟩:=hb.view;rcases Nat.lt_or_ge n m with h|h
 .refine (aHF bo ao m n capb capa fb fa h hm w hb ha wb wa).mono ?_;rintro e w' ⟨v,l,f,h1,h2,h3,h4,h5,h6,h7⟩;exact⟨v,l,f,h1,h2,h3,h4,by rw[h5,Int.add_comm],Yo,h7⟩
 .refine (aGT ao bo n m capa capb fa fb h hn w ha hb wa wb).mono ?_;rintro e w' ⟨v,l,f,h1,h2,h3,h4,h5,h6,h7⟩;exact⟨v,l,f,h1,h2,h3,h4,h5,Yo,h7⟩
end Go.Proofs.YthimcecbgpamdaaGreat
