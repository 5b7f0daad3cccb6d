import Derived.Test.YthimcecbgpamdaaGreatDoorNear203
namespace Go.Proofs.YthimcecbgpamdaaGreatDoor
open Go.RowKit
def iF(f:Nat->Int)(i:Nat):Value:=.int .i64 (f i)
variable{B n:Nat}{t:TypeId}{v:Value}{w:World}{xs:List Value}
theorem zQ{C:Nat}(h:w.ownsRow B t 1 v n xs)(e:C<=B):w.ownsRow C t 1 v n xs:=by
 refine⟨h.1,?_⟩;rcases h.2 with hn|⟨g,cap,cur,rfl,hb,rest⟩
 .exact .inl hn
 .exact .inr ⟨g,cap,cur,rfl,Nat.le_trans e hb,rest⟩
variable{z:Nat}
theorem xJ{w':World}(h:w.ownsRow B t 1 v n xs)(k:Kept z w w')(hz:z<B):w'.ownsRow B t 1 v n xs:=by
 refine⟨h.1,?_⟩;rcases h.2 with hn|⟨g,cap,cur,rfl,hb,hgg,rest⟩
 .exact .inl hn
 .exact .inr ⟨g,cap,cur,rfl,hb,(k.block g (lt_of_block hgg) Yo).trans hgg,rest⟩
variable{K:Act->World->Prop}{Q:Exit->Act->World->Prop}{o:Oper}
theorem sG(w:World){a:Act}(s x:Operand)(ho:o.op=.call { callee:=.builtin .append,args:=#[s,x],argTypes:=#[72,72] })(B:Nat)(hB:B<=w.heap.size)(v:Value)(n:Nat)(xs:List Value)(hs:a.eval s=v)(hown:w.ownsRow B 3 1 v n xs)(vo:Option Addr)(lv cv:Nat)(f:Nat->Value)(hx:a.eval x=.slice vo lv cv)(har:Sr w vo lv cv f)(h1:∀i,i<lv->(f i).oneCell'=true)(hl:(n+lv)*8<=140737488355328)(h:∀v' w',w'.ownsRow B 3 1 v' (n+lv) (xs++rowV f lv)->Below B w w'->K (a.put o.dst v') w'):o.wp Tryz.prog a w K Q:=by
 obtain⟨i0,hi,hz0,hz1,hz2⟩:=info_parts GD;rcases har with ⟨rfl,rfl,rfl⟩|⟨y,rfl,hc⟩
 .have hrun:=run_append_owned_none (P:=Tryz.prog) (w:=w) B 72 o.type 3 i0 1 Tryz.underlying72 hi v n xs hown;have hh:=h v w (by simpa [rowV] using hown) (Below.refl _ _);unfold Oper.wp execOp;simp only[ho,resolve,invoke,builtin,Sem.run_bind,Sem.run_pure,Result.andThen_ok,List.map_toArray,List.map_cons,List.map_nil,hs,hx,hrun];exact hh
 .refine wp_append_own (P:=Tryz.prog) w s x 72 ho B 3 i0 (.int .i64 0) 1 8 Tryz.underlying72 hi hz0 hz1 hz2 rfl Yc v n xs hs hown y lv cv (rowV f lv) hx (vY f lv) ?_ (mV f lv h1) Ym Yo hB ?_
  .intro j u hj;rcases Nat.lt_or_ge j lv with h2|h2
   .rw[iE f h2] at hj;cases hj;exact hc j h2
   .rw[iP f h2] at hj;cases hj
  .intro v' w2 ho2 hgr hnil;exact h v' w2 ho2 (Q5 hown hgr (Below.refl _ _) hB)
def aGj(O R t:Int):Prop:=O< -1073741824\/1073741824<O\/R< -500\/500<R\/t<0\/1099511627776<t
instance (O R t:Int):Decidable (aGj O R t):=by unfold aGj;infer_instance
def mdR(f:Nat->Int)(n:Nat)(m E:Int):Prop:=(1<=n/\n<=64/\E=0/\uG f n m)\/((n<1\/64<n)/\E=8/\m=0)
def aNl(fn:Nat):Prop:=∀(ao:Option Addr) (n cap:Nat) (f:Nat->Int) (w:World),(∀i,R64 (f i))->n*8<=140737488351232->n<=cap->Sr w ao n cap (iF f)->
 Calls Tryz.prog fn #[.slice ao n cap] w λe w'=>∃m E,mdR f n m E/\e=.returned (.tuple #[.int .i64 m,.int .i64 E])/\Below w.heap.size w w'
def xA(f:Nat->Int):Value:=.agg #[.int .i64 (f 0),.int .i64 (f 1),.int .i64 (f 2),.int .i64 (f 3)]
def F4(w:World)(b:Nat)(f:Nat->Int):Prop:=Vh 34 w b 4 4 (iF f)
section
variable {w w':World} {b:Nat} {f:Nat->Int}
theorem F4.cell(h:F4 w b f){i:Nat}(hi:i<4):w.cell? ⟨b,i,none⟩=some (.int .i64 (f i)):=Vh.cell h hi
theorem F4.free(h:F4 w b f)(i:Nat):w.frozen? ⟨b,i,none⟩=false:=Vh.free h i
theorem F4.lt(h:F4 w b f):b<w.heap.size:=Vh.lt h
theorem F4.below(h:F4 w b f)(k:Below w.heap.size w w'):F4 w' b f:=Vh.below h k
theorem F4.under(h:F4 w b f)(k:Below B w w')(hb:b<B):F4 w' b f:=Vh.same h (k.block b hb)
theorem F4.kept(h:F4 w b f)(k:Kept z w w')(hz:b≠z):F4 w' b f:=Vh.kept h k hz
theorem F4.congr{g:Nat->Int}(h:F4 w b f)(e:∀i,i<4->f i=g i):F4 w b g:=Vh.congr h (λi hi=>by unfold iF;rw[e i hi])
theorem F4.set(h:F4 w b f)(i:Nat)(x:Int):F4 (w.setCell ⟨b,i,none⟩ (.int .i64 x)) b (λj=>if j=i then x else f j):=
 Vh.congr (Vh.set h i (.int .i64 x)) (λj _=>by
  unfold eQ iF;by_cases e:j=i
  .rw[if_pos e];show _=Value.int .i64 (if j=i then x else f j);rw[if_pos e]
  .rw[if_neg e];show _=Value.int .i64 (if j=i then x else f j);rw[if_neg e])
theorem F4.new(w:World)(f:Nat->Int):F4 (w.alloc (.cells #[.int .i64 (f 0),.int .i64 (f 1),.int .i64 (f 2),.int .i64 (f 3)] 34)) w.heap.size f:=
 Vh.new w 34 #[.int .i64 (f 0),.int .i64 (f 1),.int .i64 (f 2),.int .i64 (f 3)] (iF f) (by show 4<=maxLen;decide) (λi hi=>by
  have:i=0\/i=1\/i=2\/i=3:=by simp at hi;omega
  rcases this with rfl|rfl|rfl|rfl<;>rfl)
theorem F4.put(h:F4 w b f)(g:Nat->Int):∃w',w'=(((w.setCell ⟨b,0,none⟩ (.int .i64 (g 0))).setCell ⟨b,1,none⟩ (.int .i64 (g 1))).setCell ⟨b,2,none⟩ (.int .i64 (g 2))).setCell ⟨b,3,none⟩ (.int .i64 (g 3))/\F4 w' b g/\Kept b w w':=by
 refine⟨_,rfl,((((h.set 0 (g 0)).set 1 (g 1)).set 2 (g 2)).set 3 (g 3)).congr (λi hi=>?_),(((bI w b 0 _).trans (bI _ b 1 _) (Or.inl rfl)).trans (bI _ b 2 _) (Or.inl rfl)).trans (bI _ b 3 _) (Or.inl rfl)⟩;have:i=0\/i=1\/i=2\/i=3:=Yo;rcases this with rfl|rfl|rfl|rfl<;>rfl
end
theorem NB(w:World)(f:Nat->Int):∃w1,w1=w.alloc (.cells #[.int .i64 (f 0),.int .i64 (f 1),.int .i64 (f 2),.int .i64 (f 3)] 34)/\F4 w1 w.heap.size f/\Below w.heap.size w w1/\w1.heap.size=w.heap.size+1:=
 ⟨_,rfl,F4.new w f,bK w _,dG w _⟩
variable{i:Nat}
theorem zX(f:Nat->Int)(hi:i<4)(w:World):(Instr.index 34 (.agg #[.int .i64 (f 0),.int .i64 (f 1),.int .i64 (f 2),.int .i64 (f 3)]) (.int .i64 (i:Int))).run Tryz.prog w=.ok (.int .i64 (f i)) w:=by
 have:i=0\/i=1\/i=2\/i=3:=Yo;rcases this with rfl|rfl|rfl|rfl<;>simp[Instr.index,go_sem]
def tF(b:Nat->Bool)(i:Nat):Value:=.bool (b i)
def wR(b:Nat->Bool):Value:=.agg #[.bool (b 0),.bool (b 1),.bool (b 2),.bool (b 3)]
def B4(w:World)(p:Nat)(b:Nat->Bool):Prop:=Vh 33 w p 4 4 (tF b)
section
variable {w w':World} {p:Nat} {b:Nat->Bool}
theorem B4.cell(h:B4 w p b)(hi:i<4):w.cell? ⟨p,i,none⟩=some (.bool (b i)):=Vh.cell h hi
theorem B4.free(h:B4 w p b)(i:Nat):w.frozen? ⟨p,i,none⟩=false:=Vh.free h i
theorem B4.lt(h:B4 w p b):p<w.heap.size:=Vh.lt h
theorem B4.below(h:B4 w p b)(k:Below w.heap.size w w'):B4 w' p b:=Vh.below h k
theorem B4.under(h:B4 w p b)(k:Below B w w')(hb:p<B):B4 w' p b:=Vh.same h (k.block p hb)
theorem B4.kept(h:B4 w p b)(k:Kept z w w')(hz:p≠z):B4 w' p b:=Vh.kept h k hz
theorem B4.congr{g:Nat->Bool}(h:B4 w p b)(e:∀i,i<4->b i=g i):B4 w p g:=Vh.congr h (λi hi=>by unfold tF;rw[e i hi])
theorem B4.set(h:B4 w p b)(i:Nat)(x:Bool):B4 (w.setCell ⟨p,i,none⟩ (.bool x)) p (λj=>if j=i then x else b j):=
 Vh.congr (Vh.set h i (.bool x)) (λj _=>by
  unfold eQ tF;by_cases e:j=i
  .rw[if_pos e];show _=Value.bool (if j=i then x else b j);rw[if_pos e]
  .rw[if_neg e];show _=Value.bool (if j=i then x else b j);rw[if_neg e])
theorem B4.new(w:World)(b:Nat->Bool):B4 (w.alloc (.cells #[.bool (b 0),.bool (b 1),.bool (b 2),.bool (b 3)] 33)) w.heap.size b:=
 Vh.new w 33 #[.bool (b 0),.bool (b 1),.bool (b 2),.bool (b 3)] (tF b) (by show 4<=maxLen;decide) (λi hi=>by
  have:i=0\/i=1\/i=2\/i=3:=by simp at hi;omega
  rcases this with rfl|rfl|rfl|rfl<;>rfl)
end
theorem LZ(w:World)(b:Nat->Bool):∃w1,w1=w.alloc (.cells #[.bool (b 0),.bool (b 1),.bool (b 2),.bool (b 3)] 33)/\B4 w1 w.heap.size b/\Below w.heap.size w w1/\w1.heap.size=w.heap.size+1:=
 ⟨_,rfl,B4.new w b,bK w _,dG w _⟩
def vdV(X:Int)(S:Bool)(r:Value):Value:=.agg #[.int .i64 X,.bool S,r]
def VdAt(w:World)(b:Nat)(X:Int)(S:Bool)(r:Value):Prop:=w.heap[b]?=some (.cells #[.int .i64 X,.bool S,r] 41 (0,0))
section
variable {w w':World} {b:Nat} {X:Int} {S:Bool} {r:Value}
theorem VdAt.cell0(h:VdAt w b X S r):w.cell? ⟨b,0,none⟩=some (.int .i64 X):=by unfold VdAt at h;unfold World.cell?;rw[h];rfl
theorem VdAt.cell1(h:VdAt w b X S r):w.cell? ⟨b,1,none⟩=some (.bool S):=by unfold VdAt at h;unfold World.cell?;rw[h];rfl
theorem VdAt.cell2(h:VdAt w b X S r):w.cell? ⟨b,2,none⟩=some r:=by unfold VdAt at h;unfold World.cell?;rw[h];rfl
theorem VdAt.free(h:VdAt w b X S r)(i:Nat):w.frozen? ⟨b,i,none⟩=false:=by unfold VdAt at h;simp[World.frozen?,h]
theorem VdAt.lt(h:VdAt w b X S r):b<w.heap.size:=lt_of_block h
theorem VdAt.same(h:VdAt w b X S r)(e:w'.heap[b]?=w.heap[b]?):VdAt w' b X S r:=e.trans h
theorem VdAt.below(h:VdAt w b X S r)(k:Below w.heap.size w w'):VdAt w' b X S r:=h.same (k.block b h.lt)
theorem VdAt.under(h:VdAt w b X S r)(k:Below B w w')(hb:b<B):VdAt w' b X S r:=h.same (k.block b hb)
theorem VdAt.kept(h:VdAt w b X S r)(k:Kept z w w')(hz:b≠z):VdAt w' b X S r:=h.same (k.block b h.lt hz)
theorem VdAt.new(w:World)(X:Int)(S:Bool)(r:Value):VdAt (w.alloc (.cells #[.int .i64 X,.bool S,r] 41)) w.heap.size X S r:=by
 unfold VdAt;show (w.heap.push _)[w.heap.size]?=_
 rw[Array.getElem?_push_size]
theorem VdAt.put(h:VdAt w b X S r)(X':Int)(S':Bool)(u:Value):∃w',w'=((w.setCell ⟨b,0,none⟩ (.int .i64 X')).setCell ⟨b,1,none⟩ (.bool S')).setCell ⟨b,2,none⟩ u/\VdAt w' b X' S' u/\Kept b w w':=by
 refine⟨_,rfl,?_,((bI w b 0 _).trans (bI _ b 1 _) (Or.inl rfl)).trans (bI _ b 2 _) (Or.inl rfl)⟩;unfold VdAt at h ⊢;have h1:=heap_setCell_same w b 0 _ _ (.int .i64 X') h;have h2:=heap_setCell_same _ b 1 _ _ (.bool S') h1;exact heap_setCell_same _ b 2 _ _ u h2
theorem VdAt.put0(h:VdAt w b X S r)(X':Int):∃w',w'=w.setCell ⟨b,0,none⟩ (.int .i64 X')/\VdAt w' b X' S r/\Kept b w w':=by
 refine⟨_,rfl,?_,bI w b 0 _⟩;unfold VdAt at h ⊢;exact heap_setCell_same w b 0 _ _ (.int .i64 X') h
theorem VdAt.put1(h:VdAt w b X S r)(S':Bool):∃w',w'=w.setCell ⟨b,1,none⟩ (.bool S')/\VdAt w' b X S' r/\Kept b w w':=by
 refine⟨_,rfl,?_,bI w b 1 _⟩;unfold VdAt at h ⊢;exact heap_setCell_same w b 1 _ _ (.bool S') h
end
theorem BP(w:World)(X:Int)(S:Bool)(r:Value):∃w1,w1=w.alloc (.cells #[.int .i64 X,.bool S,r] 41)/\VdAt w1 w.heap.size X S r/\Below w.heap.size w w1/\w1.heap.size=w.heap.size+1:=
 ⟨_,rfl,VdAt.new w X S r,bK w _,dG w _⟩
def aNo(fn:Nat):Prop:=∀(v:Nat->Int) (b:Nat->Bool) (w:World),(∀i,R64 (v i))->
 Calls Tryz.prog fn #[xA v,wR b] w λe w'=>∃(X:Int) (r:Value),qZ v b 4 X/\e=.returned (vdV X (QP v b X) r)/\w'.ownsRow w.heap.size 4 1 r 4 (rowV (tF (QO v b X)) 4)/\Below w.heap.size w w'
variable{a:Addr}{f:Operand->Value}
theorem PV(x:Operand)(ho:o.op=.load 3 x){v:Int}(hx:f x=.pointer (some a))(hc:w.cell? a=some (.int .i64 v)):(execOp f o).run Tryz.prog w=.ok (.value (.int .i64 v)) w:=Yg
theorem aEZ(x:Operand)(ho:o.op=.load 4 x){v:Bool}(hx:f x=.pointer (some a))(hc:w.cell? a=some (.bool v)):(execOp f o).run Tryz.prog w=.ok (.value (.bool v)) w:=Yg
theorem aDF:(Tryz.prog.info? 4).map (λi=>(i.zero,i.size,i.bytes))=some (some (.bool false),1,1):=Yl
theorem aFX(w:World){a:Act}(s x:Operand)(ho:o.op=.call { callee:=.builtin .append,args:=#[s,x],argTypes:=#[39,39] })(B:Nat)(hB:B<=w.heap.size)(v:Value)(n:Nat)(xs:List Value)(hs:a.eval s=v)(hown:w.ownsRow B 4 1 v n xs)(vo:Option Addr)(lv cv:Nat)(f:Nat->Value)(hx:a.eval x=.slice vo lv cv)(har:Sr w vo lv cv f)(h1:∀i,i<lv->(f i).oneCell'=true)(hl:n+lv<=140737488355328)(h:∀v' w',w'.ownsRow B 4 1 v' (n+lv) (xs++rowV f lv)->Below B w w'->K (a.put o.dst v') w'):o.wp Tryz.prog a w K Q:=by
 obtain⟨i0,hi,hz0,hz1,hz2⟩:=info_parts aDF;rcases har with ⟨rfl,rfl,rfl⟩|⟨y,rfl,hc⟩
 .have hrun:=run_append_owned_none (P:=Tryz.prog) (w:=w) B 39 o.type 4 i0 1 Tryz.underlying39 hi v n xs hown;have hh:=h v w (by simpa [rowV] using hown) (Below.refl _ _);unfold Oper.wp execOp;simp only[ho,resolve,invoke,builtin,Sem.run_bind,Sem.run_pure,Result.andThen_ok,List.map_toArray,List.map_cons,List.map_nil,hs,hx,hrun];exact hh
 .refine wp_append_own (P:=Tryz.prog) w s x 39 ho B 4 i0 (.bool false) 1 1 Tryz.underlying39 hi hz0 hz1 hz2 rfl Yc v n xs hs hown y lv cv (rowV f lv) hx (vY f lv) ?_ (mV f lv h1) Ym Yo hB ?_
  .intro j u hj;rcases Nat.lt_or_ge j lv with h2|h2
   .rw[iE f h2] at hj;cases hj;exact hc j h2
   .rw[iP f h2] at hj;cases hj
  .intro v' w2 ho2 hgr hnil;exact h v' w2 ho2 (Q5 hown hgr (Below.refl _ _) hB)
end Go.Proofs.YthimcecbgpamdaaGreatDoor
