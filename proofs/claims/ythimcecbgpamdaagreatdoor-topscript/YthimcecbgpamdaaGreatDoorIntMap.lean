import Derived.Test.YthimcecbgpamdaaGreatDoorNear209
namespace Go.Proofs.YthimcecbgpamdaaGreatDoor
open Go.RowKit Go.Maps
theorem aAy:Keyed Tryz.prog 3:=int_keyed Tryz.underlying3
theorem aHE(w:World):(zeroValue 3).run Tryz.prog w=.ok (.int .i64 0) w:=Yl
theorem QQ{x:Int}(h:R64 x):(Lit.int .i64 x).wf=true:=by
 unfold R64 at h;simp[Lit.wf,IntKind.min,IntKind.max,IntKind.signed,IntKind.bits];omega
theorem aKT(x:Int):WideAt.IsKeyLit (.int .i64 x):=by simp[WideAt.IsKeyLit]
def MI(w:World)(b n:Nat)(f:Int->Int):Prop:=∃D:DataW Unit,w.ownsMap Tryz.prog 3 (plainElem Tryz.prog 3) b n D/\∀k,R64 k->D.atKey (.int .i64 k) (.lit (.int .i64 0))=.lit (.int .i64 (f k))
def upZ(f:Int->Int)(k v:Int)(x:Int):Int:=if x=k then v else f x
section
variable {w w':World} {b n:Nat} {f:Int->Int}
theorem MI.lt(h:MI w b n f):b<w.heap.size:=by obtain⟨D,h,_⟩:=h;exact h.lt
theorem MI.same(h:MI w b n f)(e:w'.heap[b]?=w.heap[b]?):MI w' b n f:=by
 obtain⟨D,⟨es,clock,hb,F,hs,hD⟩,hf⟩:=h;exact⟨D,⟨es,clock,e.trans hb,F,hs,hD⟩,hf⟩
theorem MI.below(h:MI w b n f)(k:Below w.heap.size w w'):MI w' b n f:=h.same (k.block b h.lt)
theorem MI.under{B:Nat}(h:MI w b n f)(k:Below B w w')(hb:b<B):MI w' b n f:=h.same (k.block b hb)
theorem MI.kept{z:Nat}(h:MI w b n f)(k:Kept z w w')(hz:b≠z):MI w' b n f:=h.same (k.block b h.lt hz)
theorem MI.mono(h:MI w b n f){m:Nat}(e:n<=m):MI w b m f:=by obtain⟨D,h,hf⟩:=h;exact⟨D,h.mono e,hf⟩
theorem MI.congr{g:Int->Int}(h:MI w b n f)(e:∀k,R64 k->f k=g k):MI w b n g:=by
 obtain⟨D,h,hf⟩:=h;exact⟨D,h,λk hk=>by rw[hf k hk,e k hk]⟩
theorem MI.new(w:World):MI (w.alloc (.map #[] 0)) w.heap.size 0 (λ_=>0):=⟨.map [],World.ownsMap_made _ _ _ _,λ_ _=>rfl⟩
variable{k:Int}{t:TypeId}
theorem MI.look(h:MI w b n f)(hk:R64 k)(ht:Tryz.prog.underlying t=some (.map 3 3)):(Instr.lookup t (.map (some b)) (.int .i64 k) false).run Tryz.prog w=.ok (.int .i64 (f k)) w:=by
 obtain⟨D,h,hf⟩:=h;obtain⟨c,hrun,hat,_⟩:=h.lookup_int aAy ht Tryz.underlying3 (aHE w) (keyOf_int_mk Tryz.underlying3 (QQ hk));rw[hf k hk] at hat
 cases hat
 exact hrun
theorem MI.put(h:MI w b n f){v:Int}(hk:R64 k)(hv:R64 v)(hn:n<=1000000)(ht:Tryz.prog.underlying t=some (.map 3 3)):∃w',(Instr.mapUpdate t (.map (some b)) (.int .i64 k) (.int .i64 v)).run Tryz.prog w=.ok () w'/\MI w' b (n+1) (upZ f k v)/\Kept b w w':=by
 obtain⟨D,h,hf⟩:=h;have hD:IsMap D:=by obtain⟨es,clock,_,_,_,rfl⟩:=h;exact⟨_,rfl⟩
 obtain⟨w',hrun,h2,hg⟩:=h.update aAy ht Ym (keyOf_int_mk Tryz.underlying3 (QQ hk)) (plainElem_int Tryz.underlying3 (QQ hv));refine⟨w',hrun,⟨_,h2,λx hx=>?_⟩,⟨hg.os,hg.tape,hg.output,hg.size,λi hi hn=>hg.block i hi (λe=>hn (Option.some.inj e))⟩⟩;unfold upZ;by_cases e:x=k
 .subst e;rw[if_pos rfl,atKey_put_same hD (aKT x)]
 .rw[if_neg e,atKey_put_other (by intro h;cases h;exact e rfl),hf x hx]
end
end Go.Proofs.YthimcecbgpamdaaGreatDoor
