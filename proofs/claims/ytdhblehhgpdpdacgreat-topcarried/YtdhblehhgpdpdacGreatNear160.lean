import Derived.Deep.Draws
import Derived.Test.YtdhblehhgpdpdacGreatFixWalks
namespace Go.Proofs.YtdhblehhgpdpdacGreat
open Go.RowKit
def Wd(n:Nat)(f:Nat→Int):Prop:=∀i,i<n→0≤f i∧f i<4294967296
def val(f:Nat→Int):Nat→Int
 |0=>0
 |n+1=>val f n+f n*4294967296^n
theorem pow_pos(n:Nat):(0:Int)<4294967296^n:=Int.pow_pos Yc
def Row(w:World)(b n:Nat)(f:Nat→Int):Prop:=∀i,i<n→w.cell? ⟨b,i,none⟩=some (.int .u32 (f i))
def Sl(w:World)(v:Value)(n:Nat)(f:Nat→Int):Prop:=
 (v=.slice none 0 0∧n=0)∨∃b cap:Nat,v=.slice (some ⟨b,0,none⟩) n cap∧n≤cap∧cap≤9223372036854775807∧b<w.heap.size∧Row w b n f
theorem Row.same{w w':World}{b n:Nat}{f:Nat→Int}(h:Row w b n f)(hb:w'.heap[b]?=w.heap[b]?):Row w' b n f:=
 λi hi=>(World.cell?_of_block (w:=w) (a:=⟨b,i,none⟩) hb).trans (h i hi)
theorem Row.less{w:World}{b n m:Nat}{f:Nat→Int}(h:Row w b n f)(hm:m≤n):Row w b m f:=λi hi=>h i Yo
theorem Wd.less{n m:Nat}{f:Nat→Int}(h:Wd n f)(hm:m≤n):Wd m f:=λi hi=>h i Yo
structure Kept (z:Nat) (w w':World):Prop where
 os:w'.os=w.os
 tape:w'.tape=w.tape
 output:w'.output=w.output
 size:w.heap.size≤w'.heap.size
 block:∀k,k<w.heap.size→k≠z→w'.heap[k]?=w.heap[k]?
theorem Kept.of_below{z:Nat}{w w':World}(h:Below w.heap.size w w'):Kept z w w':=⟨h.os,h.tape,h.output,h.size,λk hk _=>h.block k hk⟩
theorem Kept.below{z:Nat}{w w':World}(h:Kept z w w')(hz:w.heap.size≤z):Below w.heap.size w w':=⟨h.os,h.tape,h.output,h.size,λk hk=>h.block k hk Yo⟩
theorem Kept.trans{z z':Nat}{a b c:World}(h:Kept z a b)(k:Kept z' b c)(hz:z'=z∨a.heap.size≤z'):Kept z a c:=
 ⟨k.os.trans h.os,k.tape.trans h.tape,k.output.trans h.output,Nat.le_trans h.size k.size,λi hi hn=>(k.block i (Nat.lt_of_lt_of_le hi h.size) Yo).trans (h.block i hi hn)⟩
theorem Sl.kept{z:Nat}{w w':World}{v:Value}{n:Nat}{f:Nat→Int}(h:Sl w v n f)(k:Kept z w w')(hz:∀b cap,v=.slice (some ⟨b,0,none⟩) n cap→b≠z):Sl w' v n f:=by
 rcases h with h|⟨b,cap,hv,h1,h2,h3,h4⟩
 ·exact Or.inl h
 ·exact Or.inr ⟨b,cap,hv,h1,h2,Nat.lt_of_lt_of_le h3 k.size,h4.same (k.block b h3 (hz b cap hv))⟩
theorem Sl.below{w w':World}{v:Value}{n:Nat}{f:Nat→Int}(h:Sl w v n f)(k:Below w.heap.size w w'):Sl w' v n f:=by
 rcases h with h|⟨b,cap,hv,h1,h2,h3,h4⟩
 ·exact Or.inl h
 ·exact Or.inr ⟨b,cap,hv,h1,h2,Nat.lt_of_lt_of_le h3 k.size,h4.same (k.block b h3)⟩
def BlAt(t:Nat)(w:World)(b:Nat)(x:Bool):Prop:=w.heap[b]?=some (.cells #[.bool x] t (0,0))
theorem BlAt.cell0{t:Nat}{w:World}{b:Nat}{x:Bool}(h:BlAt t w b x):w.cell? ⟨b,0,none⟩=some (.bool x):=by
 unfold BlAt at h;simp[World.cell?,h]
theorem BlAt.free{t:Nat}{w:World}{b:Nat}{x:Bool}(h:BlAt t w b x)(i:Nat):w.frozen? ⟨b,i,none⟩=false:=by
 unfold BlAt at h;simp[World.frozen?,h]
theorem BlAt.lt{t:Nat}{w:World}{b:Nat}{x:Bool}(h:BlAt t w b x):b<w.heap.size:=lt_of_block h
theorem BlAt.kept{t z:Nat}{w w':World}{b:Nat}{x:Bool}(h:BlAt t w b x)(k:Kept z w w')(hz:b≠z):BlAt t w' b x:=by
 unfold BlAt at h ⊢;rw[k.block b (lt_of_block h) hz];exact h
theorem BlAt.below{t:Nat}{w w':World}{b:Nat}{x:Bool}(h:BlAt t w b x)(k:Below w.heap.size w w'):BlAt t w' b x:=by
 unfold BlAt at h ⊢;rw[k.block b (lt_of_block h)];exact h
theorem BlAt.set{t:Nat}{w:World}{b:Nat}{x:Bool}(h:BlAt t w b x)(y:Bool):BlAt t (w.setCell ⟨b,0,none⟩ (.bool y)) b y:=by
 unfold BlAt at h ⊢
 exact heap_setCell_same w b 0 _ _ (.bool y) h
theorem BlAt.new(t:Nat)(w:World)(x:Bool):BlAt t (w.alloc (.cells #[.bool x] t)) w.heap.size x:=by
 unfold BlAt
 show (w.heap.push _)[w.heap.size]?=_
 rw[Array.getElem?_push_size]
theorem aDn(z:Nat)(w:World):Kept z w w:=⟨rfl,rfl,rfl,Nat.le_refl _,λ_ _ _=>rfl⟩
theorem kept_set(w:World)(b i:Nat)(u:Value):Kept b w (w.setCell ⟨b,i,none⟩ u):=
 ⟨rfl,rfl,rfl,by simp[World.setCell],λk _ hn=>heap_setCell_other w ⟨b,i,none⟩ k u hn⟩
theorem mJ{z:Nat}(w:World):Kept z w w.drew:=⟨rfl,rfl,rfl,Nat.le_refl _,λ_ _ _=>rfl⟩
theorem aC{B z:Nat}{a w w':World}(h:Below B a w)(k:Kept z w w')(hz:B≤z)(hB:B≤w.heap.size:=by first|exact Below.size (by assumption)|omega):Below B a w':=
 h.trans ⟨k.os,k.tape,k.output,k.size,λi hi=>k.block i Yo Yo⟩
theorem aQ{B:Nat}{a w:World}(h:Below B a w):Below B a w.drew:=⟨h.os,h.tape,h.output,h.size,h.block⟩
end Go.Proofs.YtdhblehhgpdpdacGreat
