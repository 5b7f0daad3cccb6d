import Derived.Test.YtdhblehhgpdpdacGreatNear64
import Derived.Test.YtdhblehhgpdpdacGreatNear106
namespace Go.Proofs.YtdhblehhgpdpdacGreat
open Go.RowKit
def rollC(r:Rl):Array Value:=#[.bool (r.I 0),.bool (r.I 1),.bool (r.I 2),.bool (r.I 3),.int .i64 (r.M 0),.int .i64 (r.M 1),.int .i64 (r.M 2),.int .i64 (r.M 3),.int .i64 (r.J 0),.int .i64 (r.J 1),.int .i64 (r.J 2),.int .i64 (r.J 3)]
def gK(r:Rl):Value:=.agg #[.bool (r.I 0),.bool (r.I 1),.bool (r.I 2),.bool (r.I 3),.int .i64 (r.M 0),.int .i64 (r.M 1),.int .i64 (r.M 2),.int .i64 (r.M 3),.int .i64 (r.J 0),.int .i64 (r.J 1),.int .i64 (r.J 2),.int .i64 (r.J 3)]
def RAt(w:World)(b:Nat)(r:Rl):Prop:=w.heap[b]?=some (.cells (rollC r) 50 (0,0))
theorem aFM(r:Rl):gK r=.agg (rollC r):=rfl
def aNl(r s:Rl):Prop:=∀i,i<4→r.I i=s.I i∧r.M i=s.M i∧r.J i=s.J i
theorem aFH{r s:Rl}(h:aNl r s):rollC r=rollC s:=by
 unfold rollC
 rw[(h 0 Yo).1,(h 1 Yo).1,(h 2 Yo).1,(h 3 Yo).1,(h 0 Yo).2.1,(h 1 Yo).2.1,(h 2 Yo).2.1,(h 3 Yo).2.1,(h 0 Yo).2.2,(h 1 Yo).2.2,(h 2 Yo).2.2,(h 3 Yo).2.2]
section
variable {w w':World} {b:Nat} {r:Rl}
theorem RAt.inn(h:RAt w b r){i:Nat}(hi:i<4):w.cell? ⟨b,i,none⟩=some (.bool (r.I i)):=by
 have:i=0∨i=1∨i=2∨i=3:=Yo
 unfold RAt at h;unfold World.cell?;rw[h]
 rcases this with rfl|rfl|rfl|rfl<;>rfl
theorem RAt.mis(h:RAt w b r){i:Nat}(hi:i<4):w.cell? ⟨b,4+i,none⟩=some (.int .i64 (r.M i)):=by
 have:i=0∨i=1∨i=2∨i=3:=Yo
 unfold RAt at h;unfold World.cell?;rw[h]
 rcases this with rfl|rfl|rfl|rfl<;>rfl
theorem RAt.joi(h:RAt w b r){i:Nat}(hi:i<4):w.cell? ⟨b,8+i,none⟩=some (.int .i64 (r.J i)):=by
 have:i=0∨i=1∨i=2∨i=3:=Yo
 unfold RAt at h;unfold World.cell?;rw[h]
 rcases this with rfl|rfl|rfl|rfl<;>rfl
theorem RAt.free(h:RAt w b r)(i:Nat):w.frozen? ⟨b,i,none⟩=false:=by unfold RAt at h;simp[World.frozen?,h]
theorem RAt.lt(h:RAt w b r):b<w.heap.size:=lt_of_block h
theorem RAt.same(h:RAt w b r)(e:w'.heap[b]?=w.heap[b]?):RAt w' b r:=e.trans h
theorem RAt.below(h:RAt w b r)(k:Below w.heap.size w w'):RAt w' b r:=h.same (k.block b h.lt)
theorem RAt.under{B:Nat}(h:RAt w b r)(k:Below B w w')(hb:b<B):RAt w' b r:=h.same (k.block b hb)
theorem RAt.kept{z:Nat}(h:RAt w b r)(k:Kept z w w')(hz:b≠z):RAt w' b r:=h.same (k.block b h.lt hz)
theorem RAt.alike{s:Rl}(h:RAt w b r)(e:aNl r s):RAt w b s:=by unfold RAt at h ⊢;rw[←aFH e];exact h
theorem RAt.setI(h:RAt w b r){i:Nat}(hi:i<4)(x:Bool):RAt (w.setCell ⟨b,i,none⟩ (.bool x)) b ⟨dF r.I i x,r.M,r.J⟩:=by
 unfold RAt at h ⊢
 rw[heap_setCell_same w b i _ _ (.bool x) h]
 have:i=0∨i=1∨i=2∨i=3:=Yo
 rcases this with rfl|rfl|rfl|rfl<;>rfl
theorem RAt.setM(h:RAt w b r){i:Nat}(hi:i<4)(x:Int):RAt (w.setCell ⟨b,4+i,none⟩ (.int .i64 x)) b ⟨r.I,dF r.M i x,r.J⟩:=by
 unfold RAt at h ⊢
 rw[heap_setCell_same w b (4+i) _ _ (.int .i64 x) h]
 have:i=0∨i=1∨i=2∨i=3:=Yo
 rcases this with rfl|rfl|rfl|rfl<;>rfl
theorem RAt.setJ(h:RAt w b r){i:Nat}(hi:i<4)(x:Int):RAt (w.setCell ⟨b,8+i,none⟩ (.int .i64 x)) b ⟨r.I,r.M,dF r.J i x⟩:=by
 unfold RAt at h ⊢
 rw[heap_setCell_same w b (8+i) _ _ (.int .i64 x) h]
 have:i=0∨i=1∨i=2∨i=3:=Yo
 rcases this with rfl|rfl|rfl|rfl<;>rfl
theorem RAt.new(w:World)(r:Rl):RAt (w.alloc (.cells (rollC r) 50)) w.heap.size r:=by
 unfold RAt
 show (w.heap.push _)[w.heap.size]?=_
 rw[Array.getElem?_push_size]
end
theorem uQ(w:World)(r:Rl):∃w1,w1=w.alloc (.cells #[.bool (r.I 0),.bool (r.I 1),.bool (r.I 2),.bool (r.I 3),.int .i64 (r.M 0),.int .i64 (r.M 1),.int .i64 (r.M 2),.int .i64 (r.M 3),.int .i64 (r.J 0),.int .i64 (r.J 1),.int .i64 (r.J 2),.int .i64 (r.J 3)] 50)∧RAt w1 w.heap.size r∧Below w.heap.size w w1∧w1.heap.size=w.heap.size+1:=
 ⟨_,rfl,RAt.new w r,bR w _,dC w _⟩
theorem aGM {f : Operand → Value} {o : Oper} (x : Operand) (ho : o.op = .load 50 x) {b : Nat} {r : Rl} (hx : f x = .pointer (some ⟨b, 0, none⟩)) {w : World} (hm : RAt w b r) :
  (execOp f o).run Tryz.prog w=.ok (.value (gK r)) w:=by
 have c0:w.cell? ⟨b,0,none⟩=some (.bool (r.I 0)):=hm.inn (i:=0) Yo
 have c1:w.cell? ⟨b,1,none⟩=some (.bool (r.I 1)):=hm.inn (i:=1) Yo
 have c2:w.cell? ⟨b,2,none⟩=some (.bool (r.I 2)):=hm.inn (i:=2) Yo
 have c3:w.cell? ⟨b,3,none⟩=some (.bool (r.I 3)):=hm.inn (i:=3) Yo
 have c4:w.cell? ⟨b,4,none⟩=some (.int .i64 (r.M 0)):=hm.mis (i:=0) Yo
 have c5:w.cell? ⟨b,5,none⟩=some (.int .i64 (r.M 1)):=hm.mis (i:=1) Yo
 have c6:w.cell? ⟨b,6,none⟩=some (.int .i64 (r.M 2)):=hm.mis (i:=2) Yo
 have c7:w.cell? ⟨b,7,none⟩=some (.int .i64 (r.M 3)):=hm.mis (i:=3) Yo
 have c8:w.cell? ⟨b,8,none⟩=some (.int .i64 (r.J 0)):=hm.joi (i:=0) Yo
 have c9:w.cell? ⟨b,9,none⟩=some (.int .i64 (r.J 1)):=hm.joi (i:=1) Yo
 have c10:w.cell? ⟨b,10,none⟩=some (.int .i64 (r.J 2)):=hm.joi (i:=2) Yo
 have c11:w.cell? ⟨b,11,none⟩=some (.int .i64 (r.J 3)):=hm.joi (i:=3) Yo
 clear hm
 unfold execOp
 rw[ho]
 dsimp only
 rw[hx]
 unfold gK
 go_simp
theorem wpList_loadRl (w : World) {ops : Array Oper} {rest : List Oper} {o : Oper} {a : Act} {Q : Exit → Act → World → Prop} (hgd : o.guard = none) (x : Operand) (ho : o.op = .load 50 x) {b : Nat} {r : Rl} (hx : a.eval x = .pointer (some ⟨b, 0, none⟩)) (hm : RAt w b r)
  (h:wpList Tryz.prog ops Q rest (a.put o.dst (gK r)) w):wpList Tryz.prog ops Q (o::rest) a w:=
 wpList_plain hgd λ_ hK=>by
  unfold Oper.wp
  rw[aGM x ho hx hm]
  exact hK _ _ h
theorem aGN (P : Program) (g : Nat) (t : TypeId) (old T : Array Value) (w : World) (hg : w.heap[g]? = some (.cells old t (0, 0))) (hs : old.size = T.size) (h1 : T.all (·.oneCell') = true) :
  (storeCells ⟨g,0,none⟩ T.toList).run P w=.ok () (w.setRow g T):=by
 have:=run_storeCells_from (P:=P) g t T.toList 0 old w hg (by simp;omega) (λv hv=>(Array.all_eq_true_iff_forall_mem.1 h1) v (by simpa using hv))
 simpa using this
theorem aHJ (w : World) {o : Oper} {a : Act} {K : Act → World → Prop} {Q : Exit → Act → World → Prop} (x y : Operand) (ho : o.op = .store 50 x y) {b : Nat} {u r : Rl} (hx : a.eval x = .pointer (some ⟨b, 0, none⟩)) (hy : a.eval y = gK r) (hm : RAt w b u) (hd : o.dst = none)
  (h:∀w',RAt w' b r→Kept b w w'→K a w'):WpI Tryz.prog o a w K Q:=by
 refine⟨?_⟩
 have st:=aGN Tryz.prog b 50 (rollC u) (rollC r) w hm rfl (by simp[rollC,Value.oneCell'])
 have hh:=h _ (setRow_heap w b (rollC u) (rollC r) 50 (0,0) hm) ⟨rfl,rfl,rfl,by simp[World.setRow],λk _ hk=>setRow_other w b k _ hk⟩
 have sv:(rollC r).size=12:=rfl
 rw[aFM] at hy
 generalize rollC r=T at*
 clear h hm
 unfold Oper.wp execOp
 rw[ho]
 dsimp only
 rw[hx,hy]
 go_simp
 exact hh
theorem wpList_storeRl (w : World) {ops : Array Oper} {rest : List Oper} {o : Oper} {a : Act} {Q : Exit → Act → World → Prop} (hgd : o.guard = none) (x y : Operand) (ho : o.op = .store 50 x y) {b : Nat} {u r : Rl} (hx : a.eval x = .pointer (some ⟨b, 0, none⟩)) (hy : a.eval y = gK r) (hm : RAt w b u) (hd : o.dst = none)
  (h:∀w',RAt w' b r→Kept b w w'→wpList Tryz.prog ops Q rest a w'):wpList Tryz.prog ops Q (o::rest) a w:=
 wpList_plain hgd λ_ hK=>(aHJ w x y ho hx hy hm hd (λw' m k=>hK _ _ (h w' m k))).out
def ChRd(B:Nat)(w:World)(ao:Option Addr)(l:List (Int×Nat)):Prop:=0<l.length→∃b o,ao=some ⟨b,o,none⟩∧B≤b∧∀i c,l[i]?=some c→w.cell? ⟨b,o+i*2,none⟩=some (.int .i64 c.1)∧w.cell? ⟨b,o+i*2+1,none⟩=some (.int .i64 (c.2:Nat))
theorem ChRd.below{B:Nat}{w w':World}{ao:Option Addr}{l:List (Int×Nat)}(h:ChRd B w ao l)(k:Below w.heap.size w w'):ChRd B w' ao l:=λhl=>by
 obtain⟨b,o,e,hb,hc⟩:=h hl
 exact⟨b,o,e,hb,λi c hi=>⟨bE (hc i c hi).1 k,bE (hc i c hi).2 k⟩⟩
theorem ChRd.weak{B C:Nat}{w:World}{ao:Option Addr}{l:List (Int×Nat)}(h:ChRd B w ao l)(e:C≤B):ChRd C w ao l:=λhl=>by
 obtain⟨b,o,h1,hb,hc⟩:=h hl
 exact⟨b,o,h1,Nat.le_trans e hb,hc⟩
theorem ChRd.young{B z:Nat}{w w':World}{ao:Option Addr}{l:List (Int×Nat)}(h:ChRd B w ao l)(k:Kept z w w')(hz:z<B):ChRd B w' ao l:=λhl=>by
 obtain⟨b,o,e,hb,hc⟩:=h hl
 exact⟨b,o,e,hb,λi c hi=>⟨uR (hc i c hi).1 k (by show b≠z;omega),uR (hc i c hi).2 k (by show b≠z;omega)⟩⟩
def aTH(fn:Nat):Prop:=∀w:World,Calls Tryz.prog fn #[] w λe w'=>e=.returned (gK beginR)∧Below w.heap.size w w'
def aTK(fn:Nat):Prop:=∀(r:Rl) (w:World),Calls Tryz.prog fn #[gK r] w λe w'=>e=.returned (.int .i64 ((cn r.I 4:Nat):Int))∧Below w.heap.size w w'
def aTE(fn:Nat):Prop:=∀(r:Rl) (w:World),(∀i,i<4→R64 (r.M i)∧R64 (r.J i))→Calls Tryz.prog fn #[gK r] w λe w'=>e=.returned (.bool (nK r))∧Below w.heap.size w w'
def aTU(fn:Nat):Prop:=∀(r:Rl) (X:Int) (st:Bool) (ao:Option Addr) (n cap:Nat) (A:Nat→Bool) (w:World),(∀i,i<4→R64 (r.M i)∧R64 (r.J i))→R64 X→n≤140737488351232→n≤cap→Sr w ao n cap (tF A)→
 Calls Tryz.prog fn #[gK r,vdV X st (.slice ao n cap)] w λe w'=>∃(ao':Option Addr) (c':Nat),e=.returned (.tuple #[gK (stR r st n A).1,.slice ao' (stR r st n A).2.1.length c',.int .i64 (stR r st n A).2.2])∧ChRd w.heap.size w' ao' (stR r st n A).2.1∧Below w.heap.size w w'
end Go.Proofs.YtdhblehhgpdpdacGreat
