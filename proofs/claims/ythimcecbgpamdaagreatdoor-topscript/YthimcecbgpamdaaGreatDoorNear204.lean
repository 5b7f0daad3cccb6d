import Derived.Test.YthimcecbgpamdaaGreatDoorNear195
namespace Go.Proofs.YthimcecbgpamdaaGreatDoor
open Go.RowKit
def rollC(r:Rl):Array Value:=#[.bool (r.I 0),.bool (r.I 1),.bool (r.I 2),.bool (r.I 3),.int .i64 (r.M 0),.int .i64 (r.M 1),.int .i64 (r.M 2),.int .i64 (r.M 3),.int .i64 (r.J 0),.int .i64 (r.J 1),.int .i64 (r.J 2),.int .i64 (r.J 3)]
def gK(r:Rl):Value:=.agg #[.bool (r.I 0),.bool (r.I 1),.bool (r.I 2),.bool (r.I 3),.int .i64 (r.M 0),.int .i64 (r.M 1),.int .i64 (r.M 2),.int .i64 (r.M 3),.int .i64 (r.J 0),.int .i64 (r.J 1),.int .i64 (r.J 2),.int .i64 (r.J 3)]
def RAt(w:World)(b:Nat)(r:Rl):Prop:=w.heap[b]?=some (.cells (rollC r) 36 (0,0))
theorem TE(r:Rl):gK r=.agg (rollC r):=rfl
def aGe(r s:Rl):Prop:=∀i,i<4->r.I i=s.I i/\r.M i=s.M i/\r.J i=s.J i
variable{r:Rl}
theorem TD{s:Rl}(h:aGe r s):rollC r=rollC s:=by
 unfold rollC;rw[(h 0 Yo).1,(h 1 Yo).1,(h 2 Yo).1,(h 3 Yo).1,(h 0 Yo).2.1,(h 1 Yo).2.1,(h 2 Yo).2.1,(h 3 Yo).2.1,(h 0 Yo).2.2,(h 1 Yo).2.2,(h 2 Yo).2.2,(h 3 Yo).2.2]
section
variable {w w':World} {b:Nat} {r:Rl}
variable{i:Nat}
theorem RAt.inn(h:RAt w b r)(hi:i<4):w.cell? ⟨b,i,none⟩=some (.bool (r.I i)):=by
 have:i=0\/i=1\/i=2\/i=3:=Yo;unfold RAt at h;unfold World.cell?;rw[h];rcases this with rfl|rfl|rfl|rfl<;>rfl
theorem RAt.mis(h:RAt w b r)(hi:i<4):w.cell? ⟨b,4+i,none⟩=some (.int .i64 (r.M i)):=by
 have:i=0\/i=1\/i=2\/i=3:=Yo;unfold RAt at h;unfold World.cell?;rw[h];rcases this with rfl|rfl|rfl|rfl<;>rfl
theorem RAt.joi(h:RAt w b r)(hi:i<4):w.cell? ⟨b,8+i,none⟩=some (.int .i64 (r.J i)):=by
 have:i=0\/i=1\/i=2\/i=3:=Yo;unfold RAt at h;unfold World.cell?;rw[h];rcases this with rfl|rfl|rfl|rfl<;>rfl
theorem RAt.free(h:RAt w b r)(i:Nat):w.frozen? ⟨b,i,none⟩=false:=by unfold RAt at h;simp[World.frozen?,h]
theorem RAt.lt(h:RAt w b r):b<w.heap.size:=lt_of_block h
theorem RAt.same(h:RAt w b r)(e:w'.heap[b]?=w.heap[b]?):RAt w' b r:=e.trans h
theorem RAt.below(h:RAt w b r)(k:Below w.heap.size w w'):RAt w' b r:=h.same (k.block b h.lt)
theorem RAt.under{B:Nat}(h:RAt w b r)(k:Below B w w')(hb:b<B):RAt w' b r:=h.same (k.block b hb)
theorem RAt.kept{z:Nat}(h:RAt w b r)(k:Kept z w w')(hz:b≠z):RAt w' b r:=h.same (k.block b h.lt hz)
theorem RAt.alike{s:Rl}(h:RAt w b r)(e:aGe r s):RAt w b s:=by unfold RAt at h ⊢;rw[<-TD e];exact h
theorem RAt.setI(h:RAt w b r)(hi:i<4)(x:Bool):RAt (w.setCell ⟨b,i,none⟩ (.bool x)) b ⟨dH r.I i x,r.M,r.J⟩:=by
 unfold RAt at h ⊢;rw[heap_setCell_same w b i _ _ (.bool x) h];have:i=0\/i=1\/i=2\/i=3:=Yo;rcases this with rfl|rfl|rfl|rfl<;>rfl
theorem RAt.setM(h:RAt w b r)(hi:i<4)(x:Int):RAt (w.setCell ⟨b,4+i,none⟩ (.int .i64 x)) b ⟨r.I,dH r.M i x,r.J⟩:=by
 unfold RAt at h ⊢;rw[heap_setCell_same w b (4+i) _ _ (.int .i64 x) h];have:i=0\/i=1\/i=2\/i=3:=Yo;rcases this with rfl|rfl|rfl|rfl<;>rfl
theorem RAt.setJ(h:RAt w b r)(hi:i<4)(x:Int):RAt (w.setCell ⟨b,8+i,none⟩ (.int .i64 x)) b ⟨r.I,r.M,dH r.J i x⟩:=by
 unfold RAt at h ⊢;rw[heap_setCell_same w b (8+i) _ _ (.int .i64 x) h];have:i=0\/i=1\/i=2\/i=3:=Yo;rcases this with rfl|rfl|rfl|rfl<;>rfl
theorem RAt.new(w:World)(r:Rl):RAt (w.alloc (.cells (rollC r) 36)) w.heap.size r:=by
 unfold RAt;show (w.heap.push _)[w.heap.size]?=_
 rw[Array.getElem?_push_size]
end
theorem uR(w:World)(r:Rl):∃w1,w1=w.alloc (.cells #[.bool (r.I 0),.bool (r.I 1),.bool (r.I 2),.bool (r.I 3),.int .i64 (r.M 0),.int .i64 (r.M 1),.int .i64 (r.M 2),.int .i64 (r.M 3),.int .i64 (r.J 0),.int .i64 (r.J 1),.int .i64 (r.J 2),.int .i64 (r.J 3)] 36)/\RAt w1 w.heap.size r/\Below w.heap.size w w1/\w1.heap.size=w.heap.size+1:=
 ⟨_,rfl,RAt.new w r,bK w _,dG w _⟩
variable{b:Nat}{f:Operand->Value}{o:Oper}{w:World}
theorem XM(x:Operand)(ho:o.op=.load 36 x)(hx:f x=.pointer (some ⟨b,0,none⟩))(hm:RAt w b r):(execOp f o).run Tryz.prog w=.ok (.value (gK r)) w:=by
 have c0:w.cell? ⟨b,0,none⟩=some (.bool (r.I 0)):=hm.inn (i:=0) Yo;have c1:w.cell? ⟨b,1,none⟩=some (.bool (r.I 1)):=hm.inn (i:=1) Yo;have c2:w.cell? ⟨b,2,none⟩=some (.bool (r.I 2)):=hm.inn (i:=2) Yo;have c3:w.cell? ⟨b,3,none⟩=some (.bool (r.I 3)):=hm.inn (i:=3) Yo;have c4:w.cell? ⟨b,4,none⟩=some (.int .i64 (r.M 0)):=hm.mis (i:=0) Yo;have c5:w.cell? ⟨b,5,none⟩=some (.int .i64 (r.M 1)):=hm.mis (i:=1) Yo;have c6:w.cell? ⟨b,6,none⟩=some (.int .i64 (r.M 2)):=hm.mis (i:=2) Yo;have c7:w.cell? ⟨b,7,none⟩=some (.int .i64 (r.M 3)):=hm.mis (i:=3) Yo;have c8:w.cell? ⟨b,8,none⟩=some (.int .i64 (r.J 0)):=hm.joi (i:=0) Yo;have c9:w.cell? ⟨b,9,none⟩=some (.int .i64 (r.J 1)):=hm.joi (i:=1) Yo;have c10:w.cell? ⟨b,10,none⟩=some (.int .i64 (r.J 2)):=hm.joi (i:=2) Yo;have c11:w.cell? ⟨b,11,none⟩=some (.int .i64 (r.J 3)):=hm.joi (i:=3) Yo;clear hm;unfold execOp;rw[ho];dsimp only;rw[hx];unfold gK;go_simp
variable{Q:Exit->Act->World->Prop}{a:Act}{ops:Array Oper}{rest:List Oper}
theorem lD(w:World)(hgd:o.guard=none)(x:Operand)(ho:o.op=.load 36 x)(hx:a.eval x=.pointer (some ⟨b,0,none⟩))(hm:RAt w b r)(h:wpList Tryz.prog ops Q rest (a.put o.dst (gK r)) w):wpList Tryz.prog ops Q (o::rest) a w:=
 wpList_plain hgd λ_ hK=>by
  unfold Oper.wp;rw[XM x ho hx hm];exact hK _ _ h
theorem XD(P:Program)(g:Nat)(t:TypeId)(old T:Array Value)(w:World)(hg:w.heap[g]?=some (.cells old t (0,0)))(hs:old.size=T.size)(h1:T.all (·.oneCell')=true):(storeCells ⟨g,0,none⟩ T.toList).run P w=.ok () (w.setRow g T):=by
 have:=run_storeCells_from (P:=P) g t T.toList 0 old w hg (by simp;omega) (λv hv=>(Array.all_eq_true_iff_forall_mem.1 h1) v (by simpa using hv))
 simpa using this
theorem YM(w:World){K:Act->World->Prop}(x y:Operand)(ho:o.op=.store 36 x y){u:Rl}(hx:a.eval x=.pointer (some ⟨b,0,none⟩))(hy:a.eval y=gK r)(hm:RAt w b u)(hd:o.dst=none)(h:∀w',RAt w' b r->Kept b w w'->K a w'):WpI Tryz.prog o a w K Q:=by
 refine⟨?_⟩;have st:=XD Tryz.prog b 36 (rollC u) (rollC r) w hm rfl (by simp[rollC,Value.oneCell']);have hh:=h _ (setRow_heap w b (rollC u) (rollC r) 36 (0,0) hm) ⟨rfl,rfl,rfl,by simp[World.setRow],λk _ hk=>setRow_other w b k _ hk⟩;have sv:(rollC r).size=12:=rfl;rw[TE] at hy;generalize rollC r=T at*;clear h hm;unfold Oper.wp execOp;rw[ho];dsimp only;rw[hx,hy];go_simp
 exact hh
theorem mH(w:World)(hgd:o.guard=none)(x y:Operand)(ho:o.op=.store 36 x y){u:Rl}(hx:a.eval x=.pointer (some ⟨b,0,none⟩))(hy:a.eval y=gK r)(hm:RAt w b u)(hd:o.dst=none)(h:∀w',RAt w' b r->Kept b w w'->wpList Tryz.prog ops Q rest a w'):wpList Tryz.prog ops Q (o::rest) a w:=
 wpList_plain hgd λ_ hK=>(YM w x y ho hx hy hm hd (λw' m k=>hK _ _ (h w' m k))).out
def ChRd(B:Nat)(w:World)(ao:Option Addr)(l:List (Int×Nat)):Prop:=0<l.length->∃b o,ao=some ⟨b,o,none⟩/\B<=b/\∀i c,l[i]?=some c->w.cell? ⟨b,o+i*2,none⟩=some (.int .i64 c.1)/\w.cell? ⟨b,o+i*2+1,none⟩=some (.int .i64 (c.2:Nat))
variable{B:Nat}{ao:Option Addr}{l:List (Int×Nat)}
theorem ChRd.below{w':World}(h:ChRd B w ao l)(k:Below w.heap.size w w'):ChRd B w' ao l:=λhl=>by
 obtain⟨b,o,e,hb,hc⟩:=h hl;exact⟨b,o,e,hb,λi c hi=>⟨aU (hc i c hi).1 k,aU (hc i c hi).2 k⟩⟩
theorem ChRd.weak{C:Nat}(h:ChRd B w ao l)(e:C<=B):ChRd C w ao l:=λhl=>by
 obtain⟨b,o,h1,hb,hc⟩:=h hl;exact⟨b,o,h1,Nat.le_trans e hb,hc⟩
theorem ChRd.young{z:Nat}{w':World}(h:ChRd B w ao l)(k:Kept z w w')(hz:z<B):ChRd B w' ao l:=λhl=>by
 obtain⟨b,o,e,hb,hc⟩:=h hl;exact⟨b,o,e,hb,λi c hi=>⟨yE (hc i c hi).1 k (by show b≠z;omega),yE (hc i c hi).2 k (by show b≠z;omega)⟩⟩
def aNb(fn:Nat):Prop:=∀w:World,Calls Tryz.prog fn #[] w λe w'=>e=.returned (gK beginR)/\Below w.heap.size w w'
def aNe(fn:Nat):Prop:=∀(r:Rl) (w:World),Calls Tryz.prog fn #[gK r] w λe w'=>e=.returned (.int .i64 ((cn r.I 4:Nat):Int))/\Below w.heap.size w w'
def aNj(fn:Nat):Prop:=∀(r:Rl) (w:World),(∀i,i<4->R64 (r.M i)/\R64 (r.J i))->Calls Tryz.prog fn #[gK r] w λe w'=>e=.returned (.bool (mI r))/\Below w.heap.size w w'
def aNn(fn:Nat):Prop:=∀(r:Rl) (X:Int) (st:Bool) (ao:Option Addr) (n cap:Nat) (A:Nat->Bool) (w:World),(∀i,i<4->R64 (r.M i)/\R64 (r.J i))->R64 X->n<=140737488351232->n<=cap->Sr w ao n cap (tF A)->
 Calls Tryz.prog fn #[gK r,vdV X st (.slice ao n cap)] w λe w'=>∃(ao':Option Addr) (c':Nat),e=.returned (.tuple #[gK (stR r st n A).1,.slice ao' (stR r st n A).2.1.length c',.int .i64 (stR r st n A).2.2])/\ChRd w.heap.size w' ao' (stR r st n A).2.1/\Below w.heap.size w w'
theorem OC:Many Tryz.prog 41 3:=Many.of _ Tryz.underlying41 rfl Yl
theorem OB:Many Tryz.prog 33 4:=Many.of _ Tryz.underlying33 rfl Yl
theorem FH(w:World):(zeroValue 34).run Tryz.prog w=.ok (aP (λ_=>iV 0) 0 4) w:=Yl
theorem kM(w:World):(zeroValue 36).run Tryz.prog w=.ok (aP (dF dP) 0 12) w:=Yl
section
variable {f:Operand->Value} {o:Oper}
theorem jZ(x:Operand)(ho:o.op=.extract x 0){u v s:Value}(hx:f x=.tuple #[u,v,s])(w:World):(execOp f o).run Tryz.prog w=.ok (.value u) w:=Ykq
theorem kE(x:Operand)(ho:o.op=.extract x 1){u v s:Value}(hx:f x=.tuple #[u,v,s])(w:World):(execOp f o).run Tryz.prog w=.ok (.value v) w:=Ykq
theorem kF(x:Operand)(ho:o.op=.extract x 2){u v s:Value}(hx:f x=.tuple #[u,v,s])(w:World):(execOp f o).run Tryz.prog w=.ok (.value s) w:=Ykq
theorem vZ{b:Bool}(x y:Operand)(ho:o.op=.binOp .eql 22 x y 22){u v:Int}(hx:f x=.int .i64 u)(hy:f y=.int .i64 v)(hb:decide (u=v)=b)(w:World):(execOp f o).run Tryz.prog w=.ok (.value (.bool b)) w:=by
 have e:(u==v)=b:=by rw[<-hb,Bool.eq_iff_iff];simp
 unfold execOp;rw[ho];dsimp only;rw[hx,hy];go_simp
end
theorem GN(n:Nd)(v:Value):∀j,j<4->ndF n v (0+27+0+j)=tF n.rl.I j:=by
 intro j hj;have:=aLi n v hj
 rwa [Nat.mul_one] at this
theorem DN(n:Nd)(v:Value):∀j,j<12->ndF n v (0+27+j)=dF n.rl j:=by grind [ndF]
variable{i:Nat}
theorem aLh(n:Nd)(v:Value)(hi:i<4):ndF n v (0+51+i*1)=.int .i64 (n.he i):=by
 unfold ndF;rw[if_neg Yo,if_neg Yo,if_neg Yo,if_neg Yo,if_neg Yo,if_pos Yo,show 0+51+i*1-51=i by omega];rfl
def GR(x:Int)(b:Bool)(u:Value)(i:Nat):Value:=if i=0 then iV x else if i=1 then .bool b else u
theorem aLl(n:Nd)(v:Value):∀j,j<3->ndF n v (0+71+j)=GR n.vX n.vS v j:=by
 intro j hj
 match j,hj with
 |0,_=>rfl
 |1,_=>rfl
 |2,_=>rfl
theorem fJ(r:Rl):∀j,j<12->(dF r j).oneCell'=true:=by
 intro j _;unfold dF iV
 repeat' split
 all_goals rfl
theorem aDY(x:Int)(b:Bool)(ao:Option Addr)(n c:Nat):∀j,j<3->(GR x b (.slice ao n c) j).oneCell'=true:=by
 intro j _;unfold GR iV
 repeat' split
 all_goals rfl
theorem fH(g:Nat->Value)(h:Nat->Value):∀j,j<12->stP g 0 12 h j=h j:=λj hj=>by
 have:=mF g (o:=0) (n:=12) h hj
 rwa [Nat.zero_add] at this
theorem DL:Many Tryz.prog 178 4:=Many.of _ Tryz.underlying178 rfl Yl
theorem fE:Many Tryz.prog 32 21:=Many.of _ Tryz.underlying32 rfl Yl
theorem aCD(w:World):(zeroValue 178).run Tryz.prog w=.ok (aP (λ_=>.slice none 0 0) 0 4) w:=Yl
section
variable {P:Program} {f:Operand->Value} {o:Oper}
variable{g:Nat->Value}{z:Int}
theorem jP(ty e:TypeId)(x y:Operand)(ho:o.op=.index ty x y){len:Nat}(hu:P.underlying ty=some (.array len e))(T:OneC P e)(hx:f x=aP g 0 len)(hy:f y=.int .i64 z)(hz:z=(i:Int))(hi:i<len)(w:World):(execOp f o).run P w=.ok (.value (g i)) w:=by
 subst hz;have h2:(i:Int)<(len:Int):=Yo;have hc:(((List.range len).map λj=>g (0+j)).toArray)[i]?=some (g i):=by
  rw[List.getElem?_toArray,List.getElem?_map,List.getElem?_range hi];show some (g (0+i))=_
  rw[Nat.zero_add]
 unfold execOp;simp only[ho,hx,hy,aP,Instr.index,asIntOf,part,Sem.run_bind,Sem.run_pure,Result.andThen_ok,run_underlying hu];simp[h2,T.agg,T.size,hi]
theorem jQ(ty e:TypeId)(x y:Operand)(ho:o.op=.index ty x y){len m N:Nat}(hu:P.underlying ty=some (.array len e))(T:Many P e m)(hx:f x=aP g 0 N)(hN:len*m=N)(hy:f y=.int .i64 z)(hz:z=(i:Int))(hi:i<len)(w:World):(execOp f o).run P w=.ok (.value (aP g (i*m) m)) w:=by
 subst hz hN;have h2:(i:Int)<(len:Int):=Yo;have h3:i*m+m<=len*m:=by
  have:(i+1)*m<=len*m:=Nat.mul_le_mul_right m Yo
  rwa [Nat.succ_mul] at this
 have hc:(((List.range (len*m)).map λj=>g (0+j)).toArray).extract (i*m) (i*m+m)=((List.range m).map λj=>g (i*m+j)).toArray:=by
  refine Array.ext_getElem? (λj=>?_);rw[Array.getElem?_extract,List.size_toArray,List.length_map,List.length_range];by_cases hj:j<m
  .rw[if_pos Yo,List.getElem?_toArray,List.getElem?_map,List.getElem?_range Yo,List.getElem?_toArray,List.getElem?_map,List.getElem?_range hj];show some (g (0+(i*m+j)))=some (g (i*m+j))
   rw[Nat.zero_add]
  .rw[if_neg Yo,List.getElem?_toArray,List.getElem?_eq_none (by simp;omega)]
 unfold execOp;simp only[ho,hx,hy,aP,Instr.index,asIntOf,Sem.run_bind,Sem.run_pure,Result.andThen_ok,run_underlying hu];rw[if_pos (show (0:Int)<=(i:Int)/\(i:Int)<(len:Int) from ⟨Yo,h2⟩)];simp only[part,Sem.run_bind,Sem.run_pure,Result.andThen_ok,T.agg,T.size,if_true,Int.toNat_natCast,hc]
end
section
variable {f:Operand->Value} {o:Oper}
variable{off:Nat}
theorem tJ(x:Operand)(ho:o.op=.slice 37 x none none none)(hx:f x=.pointer (some ⟨b,off,none⟩))(w:World):(execOp f o).run Tryz.prog w=.ok (.value (.slice (some ⟨b,off,none⟩) 3 3)) w:=Yg
theorem aBD(x:Operand)(ho:o.op=.slice 33 x none none none)(hx:f x=.pointer (some ⟨b,off,none⟩))(w:World):(execOp f o).run Tryz.prog w=.ok (.value (.slice (some ⟨b,off,none⟩) 4 4)) w:=Yg
theorem aBB(x:Operand)(ho:o.op=.slice 38 x none none none)(hx:f x=.pointer (some ⟨b,off,none⟩))(w:World):(execOp f o).run Tryz.prog w=.ok (.value (.slice (some ⟨b,off,none⟩) 4 4)) w:=Yg
theorem aEY(x:Operand)(ho:o.op=.call { callee:=.builtin .len,args:=#[x],argTypes:=#[39] }){n c:Nat}(hx:f x=.slice ao n c)(w:World):(execOp f o).run Tryz.prog w=.ok (.value (.int .i64 ((n:Nat):Int))) w:=by
 unfold execOp;rw[ho];dsimp only;go_simp
end
section
variable {f:Operand->Value} {o:Oper}
variable{u:Int}
theorem wD{b:Bool}(x y:Operand)(ho:o.op=.binOp .leq 3 x y 3){v:Int}(hx:f x=.int .i64 u)(hy:f y=.int .i64 v)(hb:decide (u<=v)=b)(w:World):(execOp f o).run Tryz.prog w=.ok (.value (.bool b)) w:=by
 subst hb;unfold execOp;rw[ho];dsimp only;rw[hx,hy];go_simp
theorem aFj(x y:Operand)(ho:o.op=.binOp .rem 3 x y 3)(hx:f x=.int .i64 u)(hy:f y=.int .i64 8)(h0:0<=u)(w:World):(execOp f o).run Tryz.prog w=.ok (.value (.int .i64 (u%8))) w:=by
 have e:u.tmod 8=u%8:=Int.tmod_eq_emod_of_nonneg h0;unfold execOp;rw[ho];dsimp only;rw[hx,hy];go_simp
theorem aFi(x y:Operand)(ho:o.op=.binOp .quo 3 x y 3)(hx:f x=.int .i64 u)(hy:f y=.int .i64 8)(h0:0<=u)(h2:u<=9223372036854775807)(w:World):(execOp f o).run Tryz.prog w=.ok (.value (.int .i64 (u/8))) w:=by
 have e:u.tdiv 8=u/8:=Int.tdiv_eq_ediv_of_nonneg h0;have e2:IntKind.i64.wrap (u/8)=u/8:=by rw[IntKind.wrap_i64];omega
 unfold execOp;rw[ho];dsimp only;rw[hx,hy];go_simp
theorem aFl(x y:Operand)(ho:o.op=.binOp .shr 3 x y 3){s:Nat}(hx:f x=.int .i64 u)(hy:f y=.int .i64 (s:Int))(hs:s<64)(w:World):(execOp f o).run Tryz.prog w=.ok (.value (.int .i64 (u/2^s))) w:=Yjq
theorem aEG(x y:Operand)(ho:o.op=.binOp .and 3 x y 3)(hx:f x=.int .i64 u)(hy:f y=.int .i64 1)(h0:0<=u)(h1:u<=15)(w:World):(execOp f o).run Tryz.prog w=.ok (.value (.int .i64 (u%2))) w:=by
 obtain⟨k,rfl⟩:∃k:Nat,u=(k:Int):=⟨u.toNat,Yo⟩;have hk:k<16:=Yo;unfold execOp;rw[ho];dsimp only;rw[hx,hy];clear hx hy ho h0 h1
 match k,hk with
 |0,_=>change _=_;kernel_rfl
 |1,_=>change _=_;kernel_rfl
 |2,_=>change _=_;kernel_rfl
 |3,_=>change _=_;kernel_rfl
 |4,_=>change _=_;kernel_rfl
 |5,_=>change _=_;kernel_rfl
 |6,_=>change _=_;kernel_rfl
 |7,_=>change _=_;kernel_rfl
 |8,_=>change _=_;kernel_rfl
 |9,_=>change _=_;kernel_rfl
 |10,_=>change _=_;kernel_rfl
 |11,_=>change _=_;kernel_rfl
 |12,_=>change _=_;kernel_rfl
 |13,_=>change _=_;kernel_rfl
 |14,_=>change _=_;kernel_rfl
 |15,_=>change _=_;kernel_rfl
 |k+16,h=>exact absurd h Yo
theorem aBy(ho:o.op=.build 31 #[])(w:World):(execOp f o).run Tryz.prog w=.ok (.value (aP (dK St.nil') 0 7)) w:=by
 unfold execOp;rw[ho];go_simp
 rfl
theorem aEI(a b c d e g h:Operand)(ho:o.op=.build 31 #[(0,a),(1,b),(2,c),(3,d),(4,e),(5,g),(6,h)]){s:St}(h0:f a=.int .i64 s.X)(h1:f b=.int .i64 s.V)(h2:f c=.int .i64 s.P00)(h3:f d=.int .i64 s.P01)(h4:f e=.int .i64 s.P11)(h5:f g=.bool s.B)(h6:f h=.int .i64 s.M)(w:World):(execOp f o).run Tryz.prog w=.ok (.value (aP (dK s) 0 7)) w:=by
 unfold execOp;rw[ho];go_simp
 rfl
theorem JS(ho:o.op=.build 32 #[])(w:World):(execOp f o).run Tryz.prog w=.ok (.value (aP (λj=>dK St.nil' (j%7)) 0 21)) w:=by
 unfold execOp;rw[ho];dsimp only;change _=_
 kernel_rfl
theorem xK(ho:o.op=.build 36 #[])(w:World):(execOp f o).run Tryz.prog w=.ok (.value (aP (dF dP) 0 12)) w:=by
 unfold execOp;rw[ho];go_simp
 rfl
theorem aBv(a b:Operand)(ho:o.op=.build 36 #[(1,a),(2,b)]){m j:Nat->Int}(h0:f a=aP (λi=>iV (m i)) 0 4)(h1:f b=aP (λi=>iV (j i)) 0 4)(w:World):(execOp f o).run Tryz.prog w=.ok (.value (aP (dF ⟨λ_=>false,m,j⟩) 0 12)) w:=by
 have h0':f a=.agg #[.int .i64 (m 0),.int .i64 (m 1),.int .i64 (m 2),.int .i64 (m 3)]:=h0;have h1':f b=.agg #[.int .i64 (j 0),.int .i64 (j 1),.int .i64 (j 2),.int .i64 (j 3)]:=h1;unfold execOp;rw[ho];simp only[List.map_toArray,List.map_cons,List.map_nil];rw[h0',h1'];clear h0 h1 h0' h1' ho;change _=_
 kernel_rfl
theorem Z6(x y:Operand)(ho:o.op=.slice 72 x (some y) none none){a:Addr}{n cap:Nat}{z:Int}(hx:f x=.slice (some a) n cap)(hy:f y=.int .i64 z)(hz:z=(i:Int))(hi:i<=n)(hc:i<cap)(w:World):(execOp f o).run Tryz.prog w=.ok (.value (.slice (some (a.add i)) (n-i) (cap-i))) w:=by
 subst hz;have hi2:(i:Int)<=n:=Yo;have hne:¬cap=i:=Yo;unfold execOp;rw[ho];simp only[Option.map_some,Option.map_none];rw[hx,hy];go_simp
end
end Go.Proofs.YthimcecbgpamdaaGreatDoor
