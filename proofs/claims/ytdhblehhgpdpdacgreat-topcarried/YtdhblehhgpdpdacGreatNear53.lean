import Derived.Test.YtdhblehhgpdpdacGreatNear144
import Derived.Test.YtdhblehhgpdpdacGreatMemOK
namespace Go.Proofs.YtdhblehhgpdpdacGreat
open Go.RowKit
theorem aIJ:Many Tryz.prog 53 3:=Many.of _ Tryz.underlying53 rfl (by kernel_rfl)
theorem aEx:Many Tryz.prog 47 4:=Many.of _ Tryz.underlying47 rfl (by kernel_rfl)
theorem aCa(w:World):(zeroValue 48).run Tryz.prog w=.ok (aV (λ_=>iV 0) 0 4) w:=by kernel_rfl
theorem kM(w:World):(zeroValue 50).run Tryz.prog w=.ok (aV (cZ zeroR) 0 12) w:=by kernel_rfl
section
variable {f:Operand→Value} {o:Oper}
theorem kZ(x:Operand)(ho:o.op=.extract x 0){u v s:Value}(hx:f x=.tuple #[u,v,s])(w:World):(execOp f o).run Tryz.prog w=.ok (.value u) w:=by
 unfold execOp
 rw[ho]
 dsimp only
 rw[hx]
 rfl
theorem kV(x:Operand)(ho:o.op=.extract x 1){u v s:Value}(hx:f x=.tuple #[u,v,s])(w:World):(execOp f o).run Tryz.prog w=.ok (.value v) w:=by
 unfold execOp
 rw[ho]
 dsimp only
 rw[hx]
 rfl
theorem kY(x:Operand)(ho:o.op=.extract x 2){u v s:Value}(hx:f x=.tuple #[u,v,s])(w:World):(execOp f o).run Tryz.prog w=.ok (.value s) w:=by
 unfold execOp
 rw[ho]
 dsimp only
 rw[hx]
 rfl
theorem vB{b:Bool}(x y:Operand)(ho:o.op=.binOp .eql 64 x y 64){u v:Int}(hx:f x=.int .i64 u)(hy:f y=.int .i64 v)(hb:decide (u=v)=b)(w:World):(execOp f o).run Tryz.prog w=.ok (.value (.bool b)) w:=by
 have e:(u==v)=b:=by rw[←hb,Bool.eq_iff_iff];simp
 unfold execOp
 rw[ho]
 dsimp only
 rw[hx,hy]
 go_simp
end
theorem aCP(n:Nd)(v:Value):∀j,j<4→ndF n v (0+27+0+j)=tF n.rl.I j:=by
 intro j hj
 have:=aRx n v hj
 rwa [Nat.mul_one] at this
theorem aBO(n:Nd)(v:Value):∀j,j<12→ndF n v (0+27+j)=cZ n.rl j:=by
 intro j hj
 unfold ndF
 rw[if_neg Yo,if_neg Yo,if_neg Yo,if_pos Yo,show 0+27+j-27=j by omega]
theorem aSc(n:Nd)(v:Value){i:Nat}(hi:i<4):ndF n v (0+51+i*1)=.int .i64 (n.he i):=by
 unfold ndF
 rw[if_neg Yo,if_neg Yo,if_neg Yo,if_neg Yo,if_neg Yo,if_pos Yo,show 0+51+i*1-51=i by omega]
 rfl
def aFq(x:Int)(b:Bool)(u:Value)(i:Nat):Value:=if i=0 then iV x else if i=1 then .bool b else u
theorem aRr(n:Nd)(v:Value):∀j,j<3→ndF n v (0+71+j)=aFq n.vX n.vS v j:=by
 intro j hj
 match j,hj with
 |0,_=>rfl
 |1,_=>rfl
 |2,_=>rfl
theorem fM(r:Rl):∀j,j<12→(cZ r j).oneCell'=true:=by
 intro j _
 unfold cZ iV
 repeat' split
 all_goals rfl
theorem aMo(x:Int)(b:Bool)(ao:Option Addr)(n c:Nat):∀j,j<3→(aFq x b (.slice ao n c) j).oneCell'=true:=by
 intro j _
 unfold aFq iV
 repeat' split
 all_goals rfl
theorem fI(g:Nat→Value)(h:Nat→Value):∀j,j<12→fG g 0 12 h j=h j:=λj hj=>by
 have:=mE g (o:=0) (n:=12) h hj
 rwa [Nat.zero_add] at this
theorem vM:Many Tryz.prog 147 4:=Many.of _ Tryz.underlying147 rfl (by kernel_rfl)
theorem fB:Many Tryz.prog 46 21:=Many.of _ Tryz.underlying46 rfl (by kernel_rfl)
theorem aJj(w:World):(zeroValue 147).run Tryz.prog w=.ok (aV (λ_=>.slice none 0 0) 0 4) w:=by kernel_rfl
section
variable {P:Program} {f:Operand→Value} {o:Oper}
theorem mV (ty e : TypeId) (x y : Operand) (ho : o.op = .index ty x y) {len i : Nat} (hu : P.underlying ty = some (.array len e)) (T : OneC P e) {g : Nat → Value} {z : Int} (hx : f x = aV g 0 len) (hy : f y = .int .i64 z) (hz : z = (i : Int)) (hi : i < len) (w : World) :
  (execOp f o).run P w=.ok (.value (g i)) w:=by
 subst hz
 have h2:(i:Int)<(len:Int):=Yo
 have hc:(((List.range len).map λj=>g (0+j)).toArray)[i]?=some (g i):=by
  rw[List.getElem?_toArray,List.getElem?_map,List.getElem?_range hi]
  show some (g (0+i))=_
  rw[Nat.zero_add]
 unfold execOp
 simp only[ho,hx,hy,aV,Instr.index,asIntOf,part,Sem.run_bind,Sem.run_pure,Result.andThen_ok,run_underlying hu]
 simp[h2,T.agg,T.size,hi]
theorem jJ (ty e : TypeId) (x y : Operand) (ho : o.op = .index ty x y) {len i m N : Nat} (hu : P.underlying ty = some (.array len e)) (T : Many P e m) {g : Nat → Value} {z : Int} (hx : f x = aV g 0 N) (hN : len * m = N) (hy : f y = .int .i64 z) (hz : z = (i : Int)) (hi : i < len) (w : World) :
  (execOp f o).run P w=.ok (.value (aV g (i*m) m)) w:=by
 subst hz hN
 have h2:(i:Int)<(len:Int):=Yo
 have h3:i*m+m≤len*m:=by
  have:(i+1)*m≤len*m:=Nat.mul_le_mul_right m Yo
  rwa [Nat.succ_mul] at this
 have hc:(((List.range (len*m)).map λj=>g (0+j)).toArray).extract (i*m) (i*m+m)=((List.range m).map λj=>g (i*m+j)).toArray:=by
  refine Array.ext_getElem? (λj=>?_)
  rw[Array.getElem?_extract,List.size_toArray,List.length_map,List.length_range]
  by_cases hj:j<m
  ·rw[if_pos Yo,List.getElem?_toArray,List.getElem?_map,List.getElem?_range Yo,List.getElem?_toArray,List.getElem?_map,List.getElem?_range hj]
   show some (g (0+(i*m+j)))=some (g (i*m+j))
   rw[Nat.zero_add]
  ·rw[if_neg Yo,List.getElem?_toArray,List.getElem?_eq_none (by simp;omega)]
 unfold execOp
 simp only[ho,hx,hy,aV,Instr.index,asIntOf,Sem.run_bind,Sem.run_pure,Result.andThen_ok,run_underlying hu]
 rw[if_pos (show (0:Int)≤(i:Int)∧(i:Int)<(len:Int) from ⟨Yo,h2⟩)]
 simp only[part,Sem.run_bind,Sem.run_pure,Result.andThen_ok,T.agg,T.size,if_true,Int.toNat_natCast,hc]
end
section
variable {f:Operand→Value} {o:Oper}
theorem xG(x:Operand)(ho:o.op=.slice 27 x none none none){b off:Nat}(hx:f x=.pointer (some ⟨b,off,none⟩))(w:World):(execOp f o).run Tryz.prog w=.ok (.value (.slice (some ⟨b,off,none⟩) 3 3)) w:=by
 unfold execOp
 rw[ho]
 dsimp only
 rw[hx]
 go_simp
theorem aIN(x:Operand)(ho:o.op=.slice 47 x none none none){b off:Nat}(hx:f x=.pointer (some ⟨b,off,none⟩))(w:World):(execOp f o).run Tryz.prog w=.ok (.value (.slice (some ⟨b,off,none⟩) 4 4)) w:=by
 unfold execOp
 rw[ho]
 dsimp only
 rw[hx]
 go_simp
theorem aHY(x:Operand)(ho:o.op=.slice 28 x none none none){b off:Nat}(hx:f x=.pointer (some ⟨b,off,none⟩))(w:World):(execOp f o).run Tryz.prog w=.ok (.value (.slice (some ⟨b,off,none⟩) 4 4)) w:=by
 unfold execOp
 rw[ho]
 dsimp only
 rw[hx]
 go_simp
theorem aMJ(x:Operand)(ho:o.op=.call { callee:=.builtin .len,args:=#[x],argTypes:=#[51] }){ao:Option Addr}{n c:Nat}(hx:f x=.slice ao n c)(w:World):(execOp f o).run Tryz.prog w=.ok (.value (.int .i64 ((n:Nat):Int))) w:=by
 unfold execOp
 rw[ho]
 dsimp only
 go_simp
end
section
variable {f:Operand→Value} {o:Oper}
theorem zY{b:Bool}(x y:Operand)(ho:o.op=.binOp .leq 3 x y 3){u v:Int}(hx:f x=.int .i64 u)(hy:f y=.int .i64 v)(hb:decide (u≤v)=b)(w:World):(execOp f o).run Tryz.prog w=.ok (.value (.bool b)) w:=by
 subst hb
 unfold execOp
 rw[ho]
 dsimp only
 rw[hx,hy]
 go_simp
theorem aLY(x y:Operand)(ho:o.op=.binOp .rem 3 x y 3){u:Int}(hx:f x=.int .i64 u)(hy:f y=.int .i64 8)(h0:0≤u)(w:World):(execOp f o).run Tryz.prog w=.ok (.value (.int .i64 (u%8))) w:=by
 have e:u.tmod 8=u%8:=Int.tmod_eq_emod_of_nonneg h0
 unfold execOp
 rw[ho]
 dsimp only
 rw[hx,hy]
 go_simp
theorem aMt(x y:Operand)(ho:o.op=.binOp .quo 3 x y 3){u:Int}(hx:f x=.int .i64 u)(hy:f y=.int .i64 8)(h0:0≤u)(h2:u≤9223372036854775807)(w:World):(execOp f o).run Tryz.prog w=.ok (.value (.int .i64 (u/8))) w:=by
 have e:u.tdiv 8=u/8:=Int.tdiv_eq_ediv_of_nonneg h0
 have e2:IntKind.i64.wrap (u/8)=u/8:=by rw[IntKind.wrap_i64];omega
 unfold execOp
 rw[ho]
 dsimp only
 rw[hx,hy]
 go_simp
theorem aLS(x y:Operand)(ho:o.op=.binOp .shr 3 x y 3){u:Int}{s:Nat}(hx:f x=.int .i64 u)(hy:f y=.int .i64 (s:Int))(hs:s<64)(w:World):(execOp f o).run Tryz.prog w=.ok (.value (.int .i64 (u/2^s))) w:=by
 unfold execOp
 rw[ho]
 dsimp only
 rw[hx,hy]
 go_simp
theorem aMe(x y:Operand)(ho:o.op=.binOp .and 3 x y 3){u:Int}(hx:f x=.int .i64 u)(hy:f y=.int .i64 1)(h0:0≤u)(h1:u≤15)(w:World):(execOp f o).run Tryz.prog w=.ok (.value (.int .i64 (u%2))) w:=by
 obtain⟨k,rfl⟩:∃k:Nat,u=(k:Int):=⟨u.toNat,Yo⟩
 have hk:k<16:=Yo
 unfold execOp
 rw[ho]
 dsimp only
 rw[hx,hy]
 clear hx hy ho h0 h1
 match k,hk with
 |0,_=>change _=_;kernel_rfl
 |1,_=>change _=_;kernel_rfl
 |2,_=>change _=_;kernel_rfl
 |3,_=>change _=_;kernel_rfl
 |4,_=>change _=_;kernel_rfl
 |5,_=>change _=_;kernel_rfl
 |6,_=>change _=_;kernel_rfl
 |7,_=>change _=_;kernel_rfl
 |8,_=>change _=_;kernel_rfl
 |9,_=>change _=_;kernel_rfl
 |10,_=>change _=_;kernel_rfl
 |11,_=>change _=_;kernel_rfl
 |12,_=>change _=_;kernel_rfl
 |13,_=>change _=_;kernel_rfl
 |14,_=>change _=_;kernel_rfl
 |15,_=>change _=_;kernel_rfl
 |k+16,h=>exact absurd h Yo
theorem aJt(ho:o.op=.build 45 #[])(w:World):(execOp f o).run Tryz.prog w=.ok (.value (aV (dG St.nil') 0 7)) w:=by
 unfold execOp
 rw[ho]
 go_simp
 rfl
theorem aLv (a b c d e g h : Operand) (ho : o.op = .build 45 #[(0, a), (1, b), (2, c), (3, d), (4, e), (5, g), (6, h)]) {s : St} (h0 : f a = .int .i64 s.X) (h1 : f b = .int .i64 s.V) (h2 : f c = .int .i64 s.P00) (h3 : f d = .int .i64 s.P01) (h4 : f e = .int .i64 s.P11) (h5 : f g = .bool s.B) (h6 : f h = .int .i64 s.M) (w : World) :
  (execOp f o).run Tryz.prog w=.ok (.value (aV (dG s) 0 7)) w:=by
 unfold execOp
 rw[ho]
 go_simp
 rfl
theorem aDj(ho:o.op=.build 46 #[])(w:World):(execOp f o).run Tryz.prog w=.ok (.value (aV (λj=>dG St.nil' (j%7)) 0 21)) w:=by
 unfold execOp
 rw[ho]
 dsimp only
 change _=_
 kernel_rfl
theorem xE(ho:o.op=.build 50 #[])(w:World):(execOp f o).run Tryz.prog w=.ok (.value (aV (cZ zeroR) 0 12)) w:=by
 unfold execOp
 rw[ho]
 go_simp
 rfl
theorem aJs (a b : Operand) (ho : o.op = .build 50 #[(1, a), (2, b)]) {m j : Nat → Int} (h0 : f a = aV (λi => iV (m i)) 0 4) (h1 : f b = aV (λi => iV (j i)) 0 4) (w : World) :
  (execOp f o).run Tryz.prog w=.ok (.value (aV (cZ ⟨λ_=>false,m,j⟩) 0 12)) w:=by
 have h0':f a=.agg #[.int .i64 (m 0),.int .i64 (m 1),.int .i64 (m 2),.int .i64 (m 3)]:=h0
 have h1':f b=.agg #[.int .i64 (j 0),.int .i64 (j 1),.int .i64 (j 2),.int .i64 (j 3)]:=h1
 unfold execOp
 rw[ho]
 simp only[List.map_toArray,List.map_cons,List.map_nil]
 rw[h0',h1']
 clear h0 h1 h0' h1' ho
 change _=_
 kernel_rfl
theorem aBa (x y : Operand) (ho : o.op = .slice 67 x (some y) none none) {a : Addr} {n cap i : Nat} {z : Int} (hx : f x = .slice (some a) n cap) (hy : f y = .int .i64 z) (hz : z = (i : Int)) (hi : i ≤ n) (hc : i < cap) (w : World) :
  (execOp f o).run Tryz.prog w=.ok (.value (.slice (some (a.add i)) (n-i) (cap-i))) w:=by
 subst hz
 have hi2:(i:Int)≤n:=Yo
 have hne:¬cap=i:=Yo
 unfold execOp
 rw[ho]
 simp only[Option.map_some,Option.map_none]
 rw[hx,hy]
 go_simp
end
end Go.Proofs.YtdhblehhgpdpdacGreat
