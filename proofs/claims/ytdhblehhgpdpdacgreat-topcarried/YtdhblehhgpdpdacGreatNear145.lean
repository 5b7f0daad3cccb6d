import Derived.Test.YtdhblehhgpdpdacGreatNear163
namespace Go.Proofs.YtdhblehhgpdpdacGreat
open Go.RowKit
theorem aDy(x:Value)(w:World):(callFunc 77 #[x]).run Tryz.prog w=.ok (.enter 77 #[x]) w:=by go_simp
theorem aHC(x:Value)(w:World):(callFunc 64 #[x]).run Tryz.prog w=.ok (.enter 64 #[x]) w:=by go_simp
theorem aOS{f:Operand→Value}{o:Oper}(x:Operand)(ho:o.op=.convert 3 117 x){v:Int}(hx:f x=.int .i64 v)(w:World):(execOp f o).run Tryz.prog w=.ok (.value (.int .u64 (v%18446744073709551616))) w:=by
 unfold execOp
 rw[ho]
 dsimp only
 rw[hx]
 go_simp
 rfl
theorem aKR{f:Operand→Value}{o:Oper}{s:Nat}(x y:Operand)(ho:o.op=.binOp .shr 117 x y 3){u:Int}(hx:f x=.int .u64 u)(hy:f y=.int .i64 (s:Int))(hs:s<64)(w:World):(execOp f o).run Tryz.prog w=.ok (.value (.int .u64 (u/2^s))) w:=by
 unfold execOp
 rw[ho]
 dsimp only
 rw[hx,hy]
 go_simp
theorem aQi{f:Operand→Value}{o:Oper}(x:Operand)(ho:o.op=.convert 117 5 x){u:Int}(hx:f x=.int .u64 u)(w:World):(execOp f o).run Tryz.prog w=.ok (.value (bV (u%256).toNat)) w:=by
 unfold execOp
 rw[ho]
 dsimp only
 rw[hx]
 go_simp
 show Value.int .u8 (u%256)=.int .u8 ((u%256).toNat:Int)
 rw[Int.toNat_of_nonneg Yo]
theorem aMH(v:Int){x:Nat}(hx:x<8):(v%18446744073709551616/2^(56-8*x)%256).toNat=bt v 8 x:=by
 unfold bt
 congr 1
 match x,hx with
 |0,_=>show v%18446744073709551616/72057594037927936%256=v/72057594037927936%256;omega
 |1,_=>show v%18446744073709551616/281474976710656%256=v/281474976710656%256;omega
 |2,_=>show v%18446744073709551616/1099511627776%256=v/1099511627776%256;omega
 |3,_=>show v%18446744073709551616/4294967296%256=v/4294967296%256;omega
 |4,_=>show v%18446744073709551616/16777216%256=v/16777216%256;omega
 |5,_=>show v%18446744073709551616/65536%256=v/65536%256;omega
 |6,_=>show v%18446744073709551616/256%256=v/256%256;omega
 |7,_=>show v%18446744073709551616/1%256=v/1%256;omega
theorem aPS (w : World) {o : Oper} {a : Act} {K : Act → World → Prop} {Q : Exit → Act → World → Prop} (x : Operand) (ho : o.op = .buildSlice 33 1 #[(0, x)]) {g : Nat} (hx : a.eval x = bV g)
  (h:∀w',Vh 5 w' w.heap.size 1 1 (λ_=>bV g)→Below w.heap.size w w'→w'.heap.size=w.heap.size+1→K (a.put o.dst (.slice (some ⟨w.heap.size,0,none⟩) 1 1)) w'):WpI Tryz.prog o a w K Q:=by
 have hh:=h (w.alloc (.cells #[bV g] 5)) (Vh.of_row (λ_=>bV g) 1 Yc (by show (w.heap.push _)[w.heap.size]?=_;rw[Array.getElem?_push_size];rfl)) (bR _ _) (dC _ _)
 have e:(execOp a.eval o).run Tryz.prog w=.ok (.value (.slice (some ⟨w.heap.size,0,none⟩) 1 1)) (w.alloc (.cells #[bV g] 5)):=by
  generalize a.eval=f at hx
  unfold bV at hx ⊢
  unfold execOp
  rw[ho]
  simp only[List.map_toArray,List.map_cons,List.map_nil]
  rw[hx]
  go_simp
 refine⟨?_⟩
 unfold Oper.wp
 rw[e]
 exact hh
theorem aPp{ax:Nat→St}{r:Rl}{i x:Nat}(hx:x<8):rowV (bF (vU ax r)) (8*i+x)++rowV (λ_=>bV (bt (gL (qZ ax r) i) 8 x)) 1=rowV (bF (vU ax r)) (8*i+(x+1)):=by
 rw[lM]
 refine iB (λj hj=>?_)
 by_cases c:j<8*i+x
 ·rw[if_pos c]
 ·rw[if_neg c]
  show bV (bt (gL (qZ ax r) i) 8 x)=bV (bt ((qZ ax r).getD (j/8) 0) 8 (j%8))
  rw[show j/8=i by omega,show j%8=x by omega]
  rfl
set_option maxHeartbeats 2000000 in
theorem aHs (ax : Nat → St) (r : Rl) (vo : Option Addr) (vc : Nat) (w : World) (hsr : Sr w vo 24 vc (iF (gL (qZ ax r)))) :
  Calls Tryz.prog 77 #[.slice vo 24 vc] w λe w'=>e=.returned (.int .i64 (dgN ax r))∧Below w.heap.size w w':=by
 obtain⟨y,rfl,hy⟩:∃y,vo=some y∧∀i,i<24→w.cell? (y.add i)=some (.int .i64 (gL (qZ ax r) i)):=by
  rcases hsr with ⟨_,e,_⟩|⟨y,e,hc⟩
  ·exact absurd e Yc
  ·exact⟨y,e,λi hi=>hc i hi⟩
 refine bX Tryz.func77 rfl 28 rfl Yd (λA hs hd hb=>?_)
 have b0:=hb 0 _ rfl
 clear hb
 refine aD (aJ ?_)
 refine Yp ?_
 refine aF ?_
 refine aD ?_
 refine Yp ?_
 refine aF ?_
 refine aK ?_
 refine aD ?_
 refine Yp ?_
 refine Yq (eP _ rfl (Ye rfl) _) ?_
 refine Yp ?_
 refine aF ?_
 refine aU ?_
 refine dY (λq A W=>∃(i:Nat) (v:Value),i≤24∧24-i≤q∧A.tmps.size=28∧A.defers=[]∧A.eval (.tmp 7)=.slice (some y) 24 vc∧A.eval (.tmp 8)=.int .i64 ((24:Nat):Int)∧A.eval (.tmp 9)=.int .i64 (i:Int)∧A.eval (.tmp 3)=v∧W.ownsRow w.heap.size 5 1 v (8*i) (rowV (bF (vU ax r)) (8*i))∧Below w.heap.size w W) 24 ⟨0,_,Yo,Yo,(bZ _ _).trans hs,(aO _ _).trans hd,(Ye rfl),(Ye rfl),(Ye rfl),(Ye rfl),World.ownsRow_nil _ _ _ _,Below.refl _ _⟩ (λq B W hI2=>?_)
 clear b0 hs hd
 obtain⟨i,v,hi,hr2,hs,hd,b7,b8,b9,b3,ov,kB⟩:=hI2
 have hWs:=kB.size
 by_cases hin:i<24
 ·refine aD (aJ ?_)
  refine Yq (aZ (b:=true) _ _ rfl (aB rfl b9) (aB rfl b8) (decide_eq_true Yo) _) ?_
  refine aF ?_
  refine aK (bP (Ye rfl) (bL ?_))
  refine aK (aU ?_)
  refine aD ?_
  refine Yq (fT _ _ rfl (a:=y) (n:=24) (cap:=vc) (aB rfl b7) (aB rfl b9) (i:=i) rfl hin _) ?_
  refine Yq (fQ _ rfl (Ye rfl) (bE (hy i hin) kB)) ?_
  refine Yp ?_
  refine aF ?_
  refine aD ?_
  refine Yp ?_
  refine aF ?_
  refine aU ?_
  refine dY (λq A W=>∃(x:Nat) (v:Value),x≤8∧8-x≤q∧A.tmps.size=28∧A.defers=[]∧A.eval (.tmp 7)=.slice (some y) 24 vc∧A.eval (.tmp 8)=.int .i64 ((24:Nat):Int)∧A.eval (.tmp 9)=.int .i64 (i:Int)∧A.eval (.tmp 5)=.int .i64 (gL (qZ ax r) i)∧A.eval (.tmp 6)=.int .i64 (56-8*(x:Int))∧A.eval (.tmp 3)=v∧W.ownsRow w.heap.size 5 1 v (8*i+x) (rowV (bF (vU ax r)) (8*i+x))∧Below w.heap.size w W) 8 ⟨0,v,Yo,Yo,(bZ _ _).trans hs,(aO _ _).trans hd,(aB rfl b7),(aB rfl b8),(aB rfl b9),(Ye rfl),(Ye rfl),(aB rfl b3),ov,kB⟩ (λq3 B3 W3 hI3=>?_)
  clear b3 b7 b8 b9 hs hd ov
  obtain⟨x,v3,hx,hr3,hs,hd,b7,b8,b9,b5,b6,b3,ov,kB3⟩:=hI3
  have hWs3:=kB3.size
  by_cases hin3:x<8
  ·refine aK ?_
   refine aD (aJ ?_)
   refine Yp ?_
   refine Yq (iR (b:=true) _ _ rfl (Ye rfl) (aG _ _) (decide_eq_true Yo) _) ?_
   refine aF ?_
   refine bP (Ye rfl) (bL ?_)
   refine aK (aU ?_)
   refine aR ?_
   iterate 2 refine Yp ?_
   refine Yq (aOS _ rfl (Ye rfl) _) ?_
   refine Yp ?_
   refine Yq (aKR (s:=56-8*x) _ _ rfl (Ye rfl) ((Ye rfl).trans (by rw[show (56-8*(x:Int))=((56-8*x:Nat):Int) by omega])) Yo _) ?_
   refine Yq ((aQi _ rfl (Ye rfl) _).trans (by rw[aMH _ hin3])) ?_
   refine aS rfl Yw (λK hK=>?_)
   refine aPS _ _ rfl (Ye rfl) ?_
   intro w21 m21 k21 z21
   have ov21:=bG ov k21
   refine hK _ _ ?_
   clear hK K
   refine aS rfl Yw (λK hK=>?_)
   refine⟨aGm _ _ _ rfl w.heap.size Yo v3 _ _ (Ye rfl) ov21 _ 1 1 _ (Ye rfl) (Or.inr ⟨_,rfl,λi hi=>by rw[add_at,Nat.zero_add];exact m21.cell hi⟩) (λi _=>rfl) Yo ?_⟩
   intro v22 w22 ov22 k22
   have n22:=k22.size
   rw[aPp hin3] at ov22
   refine hK _ _ ?_
   clear hK K
   refine Yp ?_
   refine iE ?_
   refine aR ?_
   refine Yp ?_
   refine Yq (zH _ _ rfl (Ye rfl) (aG _ _) Yo Yo _) ?_
   refine Yp ?_
   exact bQ ⟨8-(x+1),Yo,x+1,_,Yo,Yo,(bZ _ _).trans hs,(aO _ _).trans hd,(aB rfl b7),(aB rfl b8),(aB rfl b9),(aB rfl b5),(Ye rfl).trans (by congr 1;omega),(Ye rfl),ov22,(kB3.trans (k21.mono Yo)).trans (k22.mono Yo)⟩
  ·refine aK ?_
   refine aD (aJ ?_)
   refine Yp ?_
   refine Yq (iR (b:=false) _ _ rfl (Ye rfl) (aG _ _) (decide_eq_false Yo) _) ?_
   obtain rfl:x=8:=Yo
   refine aF ?_
   refine bM (Ye rfl) (dS (aJS ?_))
   refine aR ?_
   refine Yq (bW _ _ rfl (aB rfl b9) (aG _ _) Yo Yo _) ?_
   refine Yp ?_
   exact bQ ⟨24-(i+1),Yo,i+1,_,Yo,Yo,(bZ _ _).trans hs,(aO _ _).trans hd,(aB rfl b7),(aB rfl b8),(Ye rfl).trans (by rw[Int.natCast_add];rfl),(aB rfl b3),ov,kB3⟩
 ·refine aD (aJ ?_)
  refine Yq (aZ (b:=false) _ _ rfl (aB rfl b9) (aB rfl b8) (decide_eq_false Yo) _) ?_
  obtain rfl:i=24:=Yo
  refine aF ?_
  refine aK (bM (Ye rfl) (dS (fU ?_)))
  obtain⟨ta,tc,rfl,htc⟩:=gG ov
  refine aD ?_
  refine Yp ?_
  refine aS rfl Yw (λK hK=>?_)
  refine bN _ 64 _ _ rfl (Ye rfl) (aHC _ _) (aFo ta (8*24) tc (vU ax r) _ (aQd ax r) Yc (aAN ov)) ?_
  rintro e w11 ⟨rfl,k11⟩
  have n11:=k11.size
  refine⟨_,rfl,?_⟩
  refine hK _ _ ?_
  clear hK K
  refine Yp ?_
  refine aF ?_
  exact bD (bB ((aO _ _).trans hd) (dW rfl (Ye rfl)) ⟨rfl,kB.trans (k11.mono Yo)⟩)
def SAt(w:World)(b:Nat)(s:St):Prop:=w.heap[b]?=some (.cells #[.int .i64 s.X,.int .i64 s.V,.int .i64 s.P00,.int .i64 s.P01,.int .i64 s.P11,.bool s.B,.int .i64 s.M] 45 (0,0))
theorem SAt.c0{w:World}{b:Nat}{s:St}(h:SAt w b s):w.cell? ⟨b,0,none⟩=some (.int .i64 s.X):=by
 unfold SAt at h;unfold World.cell?;rw[h];rfl
theorem SAt.c1{w:World}{b:Nat}{s:St}(h:SAt w b s):w.cell? ⟨b,1,none⟩=some (.int .i64 s.V):=by
 unfold SAt at h;unfold World.cell?;rw[h];rfl
theorem SAt.c2{w:World}{b:Nat}{s:St}(h:SAt w b s):w.cell? ⟨b,2,none⟩=some (.int .i64 s.P00):=by
 unfold SAt at h;unfold World.cell?;rw[h];rfl
theorem SAt.c3{w:World}{b:Nat}{s:St}(h:SAt w b s):w.cell? ⟨b,3,none⟩=some (.int .i64 s.P01):=by
 unfold SAt at h;unfold World.cell?;rw[h];rfl
theorem SAt.c4{w:World}{b:Nat}{s:St}(h:SAt w b s):w.cell? ⟨b,4,none⟩=some (.int .i64 s.P11):=by
 unfold SAt at h;unfold World.cell?;rw[h];rfl
theorem SAt.c5{w:World}{b:Nat}{s:St}(h:SAt w b s):w.cell? ⟨b,5,none⟩=some (.bool s.B):=by
 unfold SAt at h;unfold World.cell?;rw[h];rfl
theorem SAt.c6{w:World}{b:Nat}{s:St}(h:SAt w b s):w.cell? ⟨b,6,none⟩=some (.int .i64 s.M):=by
 unfold SAt at h;unfold World.cell?;rw[h];rfl
theorem SAt.free{w:World}{b:Nat}{s:St}(h:SAt w b s)(i:Nat):w.frozen? ⟨b,i,none⟩=false:=by
 unfold SAt at h;simp[World.frozen?,h]
theorem SAt.lt{w:World}{b:Nat}{s:St}(h:SAt w b s):b<w.heap.size:=lt_of_block h
theorem SAt.same{w':World}{w:World}{b:Nat}{s:St}(h:SAt w b s)(e:w'.heap[b]?=w.heap[b]?):SAt w' b s:=e.trans h
theorem SAt.below{w':World}{w:World}{b:Nat}{s:St}(h:SAt w b s)(k:Below w.heap.size w w'):SAt w' b s:=h.same (k.block b h.lt)
theorem SAt.kept{z:Nat}{w':World}{w:World}{b:Nat}{s:St}(h:SAt w b s)(k:Kept z w w')(hz:b≠z):SAt w' b s:=h.same (k.block b h.lt hz)
theorem SAt.drew{w:World}{b:Nat}{s:St}(h:SAt w b s):SAt w.drew b s:=h
theorem SAt.drewN{w:World}{b:Nat}{s:St}(h:SAt w b s)(k:Nat):SAt (w.drewN k) b s:=h
theorem SAt.s0{w:World}{b:Nat}{s:St}(h:SAt w b s)(u:Int):SAt (w.setCell ⟨b,0,none⟩ (.int .i64 u)) b { s with X:=u }:=by
 unfold SAt at h ⊢
 exact heap_setCell_same w b 0 _ _ (.int .i64 u) h
theorem SAt.s1{w:World}{b:Nat}{s:St}(h:SAt w b s)(u:Int):SAt (w.setCell ⟨b,1,none⟩ (.int .i64 u)) b { s with V:=u }:=by
 unfold SAt at h ⊢
 exact heap_setCell_same w b 1 _ _ (.int .i64 u) h
theorem SAt.s2{w:World}{b:Nat}{s:St}(h:SAt w b s)(u:Int):SAt (w.setCell ⟨b,2,none⟩ (.int .i64 u)) b { s with P00:=u }:=by
 unfold SAt at h ⊢
 exact heap_setCell_same w b 2 _ _ (.int .i64 u) h
theorem SAt.s3{w:World}{b:Nat}{s:St}(h:SAt w b s)(u:Int):SAt (w.setCell ⟨b,3,none⟩ (.int .i64 u)) b { s with P01:=u }:=by
 unfold SAt at h ⊢
 exact heap_setCell_same w b 3 _ _ (.int .i64 u) h
theorem SAt.s4{w:World}{b:Nat}{s:St}(h:SAt w b s)(u:Int):SAt (w.setCell ⟨b,4,none⟩ (.int .i64 u)) b { s with P11:=u }:=by
 unfold SAt at h ⊢
 exact heap_setCell_same w b 4 _ _ (.int .i64 u) h
theorem SAt.s5{w:World}{b:Nat}{s:St}(h:SAt w b s)(u:Bool):SAt (w.setCell ⟨b,5,none⟩ (.bool u)) b { s with B:=u }:=by
 unfold SAt at h ⊢
 exact heap_setCell_same w b 5 _ _ (.bool u) h
theorem SAt.s6{w:World}{b:Nat}{s:St}(h:SAt w b s)(u:Int):SAt (w.setCell ⟨b,6,none⟩ (.int .i64 u)) b { s with M:=u }:=by
 unfold SAt at h ⊢
 exact heap_setCell_same w b 6 _ _ (.int .i64 u) h
theorem SAt.new(w:World)(s:St):SAt (w.alloc (.cells #[.int .i64 s.X,.int .i64 s.V,.int .i64 s.P00,.int .i64 s.P01,.int .i64 s.P11,.bool s.B,.int .i64 s.M] 45)) w.heap.size s:=by
 unfold SAt
 show (w.heap.push _)[w.heap.size]?=_
 rw[Array.getElem?_push_size]
theorem SAt.put{w:World}{b:Nat}{s:St}(h:SAt w b s)(t:St):∃w',w'=(((((((w.setCell ⟨b,0,none⟩ (.int .i64 t.X)).setCell ⟨b,1,none⟩ (.int .i64 t.V)).setCell ⟨b,2,none⟩ (.int .i64 t.P00)).setCell ⟨b,3,none⟩ (.int .i64 t.P01)).setCell ⟨b,4,none⟩ (.int .i64 t.P11)).setCell ⟨b,5,none⟩ (.bool t.B)).setCell ⟨b,6,none⟩ (.int .i64 t.M))∧SAt w' b t∧Kept b w w':=by
 refine⟨_,rfl,?_,?_⟩
 ·exact (((((((h.s0 t.X).s1 t.V).s2 t.P00).s3 t.P01).s4 t.P11).s5 t.B).s6 t.M)
 ·exact (((((((kept_set w b 0 _).trans (kept_set _ b 1 _) (Or.inl rfl)).trans (kept_set _ b 2 _) (Or.inl rfl)).trans (kept_set _ b 3 _) (Or.inl rfl)).trans (kept_set _ b 4 _) (Or.inl rfl)).trans (kept_set _ b 5 _) (Or.inl rfl)).trans (kept_set _ b 6 _) (Or.inl rfl))
abbrev stV(s:St):Value:=.agg #[.int .i64 s.X,.int .i64 s.V,.int .i64 s.P00,.int .i64 s.P01,.int .i64 s.P11,.bool s.B,.int .i64 s.M]
abbrev tnV(t:Tn):Value:=.agg #[.int .i64 t.Dt,.int .i64 t.Q,.int .i64 t.R,.int .i64 t.G]
abbrev uV(b:Nat):Value:=.agg #[.pointer (some ⟨b,0,none⟩)]
def HbAt(w:World)(bh b:Nat):Prop:=w.heap[bh]?=some (.cells #[.pointer (some ⟨b,0,none⟩)] 195 (0,0))
theorem HbAt.c0{w:World}{bh b:Nat}(h:HbAt w bh b):w.cell? ⟨bh,0,none⟩=some (.pointer (some ⟨b,0,none⟩)):=by
 unfold HbAt at h;unfold World.cell?;rw[h];rfl
theorem HbAt.lt{w:World}{bh b:Nat}(h:HbAt w bh b):bh<w.heap.size:=lt_of_block h
theorem HbAt.same{w w':World}{bh b:Nat}(h:HbAt w bh b)(e:w'.heap[bh]?=w.heap[bh]?):HbAt w' bh b:=e.trans h
theorem HbAt.kept{z:Nat}{w w':World}{bh b:Nat}(h:HbAt w bh b)(k:Kept z w w')(hz:bh≠z):HbAt w' bh b:=h.same (k.block bh h.lt hz)
theorem HbAt.new(w:World)(b:Nat):HbAt (w.alloc (.cells #[.pointer (some ⟨b,0,none⟩)] 195)) w.heap.size b:=by
 unfold HbAt
 show (w.heap.push _)[w.heap.size]?=_
 rw[Array.getElem?_push_size]
theorem oL{w:World}{b:Nat}{s:St}(h:SAt w b s):∃w1,w1=w.alloc (.cells #[.pointer (some ⟨b,0,none⟩)] 195)∧HbAt w1 w.heap.size b∧SAt w1 b s∧Kept b w w1∧w.heap.size≠b:=
 ⟨_,rfl,HbAt.new w b,h.below (bR w _),aGC w _,by have:=h.lt;omega⟩
structure Hd (bh b bo:Nat) (s:St) (w:World):Prop where
 hand:HbAt w bh b
 old:SAt w bo s
 n1:bh≠b
 n2:bo≠b
theorem Hd.kept{bh b bo:Nat}{s:St}{w w':World}(h:Hd bh b bo s w)(k:Kept b w w'):Hd bh b bo s w':=⟨h.hand.kept k h.n1,h.old.kept k h.n2,h.n1,h.n2⟩
theorem Hd.drew{bh b bo:Nat}{s:St}{w:World}(h:Hd bh b bo s w):Hd bh b bo s w.drew:=⟨h.hand,h.old,h.n1,h.n2⟩
def St.nil:St:=⟨0,0,0,0,0,false,0⟩
def St.bend(s:St)(x:Bool):St:={ s with B:=s.B||x }
def St.setX(s:St)(x:Int):St:={ s with X:=x }
def St.setV(s:St)(x:Int):St:={ s with V:=x }
def St.setP00(s:St)(x:Int):St:={ s with P00:=x }
def St.setP01(s:St)(x:Int):St:={ s with P01:=x }
def St.setP11(s:St)(x:Int):St:={ s with P11:=x }
def St.setM(s:St)(x:Int):St:={ s with M:=x }
theorem tJ {w : World} {b : Nat} {s : St} (h : SAt w b s) : ∃ w2, w2 = (w.alloc (.cells #[.pointer (some ⟨b, 0, none⟩)] 195)).alloc (.cells #[.int .i64 s.X, .int .i64 s.V, .int .i64 s.P00, .int .i64 s.P01, .int .i64 s.P11, .bool s.B, .int .i64 s.M] 45) ∧
  Hd w.heap.size b (w.heap.size+1) s w2∧SAt w2 b s∧Kept b w w2:=by
 obtain⟨w1,e1,a1,s1,k1,n1⟩:=oL h
 have z1:w1.heap.size=w.heap.size+1:=by rw[e1];exact dC w _
 have h2:=SAt.new w1 s
 have k2:=aGC (z:=b) w1 (.cells #[.int .i64 s.X,.int .i64 s.V,.int .i64 s.P00,.int .i64 s.P01,.int .i64 s.P11,.bool s.B,.int .i64 s.M] 45)
 have k3:=bR w1 (.cells #[.int .i64 s.X,.int .i64 s.V,.int .i64 s.P00,.int .i64 s.P01,.int .i64 s.P11,.bool s.B,.int .i64 s.M] 45)
 rw[z1] at h2
 have hl:=h.lt
 refine⟨_,by rw[←e1],⟨a1.same (k3.block _ a1.lt),h2,n1,Yo⟩,s1.below k3,k1.trans k2 (Or.inl rfl)⟩
theorem SAt.pX{w:World}{b:Nat}{s:St}(h:SAt w b s)(u:Int):∃w',w'=w.setCell ⟨b,0,none⟩ (.int .i64 u)∧SAt w' b (s.setX u)∧Kept b w w':=⟨_,rfl,h.s0 u,kept_set w b 0 _⟩
theorem SAt.pV{w:World}{b:Nat}{s:St}(h:SAt w b s)(u:Int):∃w',w'=w.setCell ⟨b,1,none⟩ (.int .i64 u)∧SAt w' b (s.setV u)∧Kept b w w':=⟨_,rfl,h.s1 u,kept_set w b 1 _⟩
theorem SAt.pP00{w:World}{b:Nat}{s:St}(h:SAt w b s)(u:Int):∃w',w'=w.setCell ⟨b,2,none⟩ (.int .i64 u)∧SAt w' b (s.setP00 u)∧Kept b w w':=⟨_,rfl,h.s2 u,kept_set w b 2 _⟩
theorem SAt.pP01{w:World}{b:Nat}{s:St}(h:SAt w b s)(u:Int):∃w',w'=w.setCell ⟨b,3,none⟩ (.int .i64 u)∧SAt w' b (s.setP01 u)∧Kept b w w':=⟨_,rfl,h.s3 u,kept_set w b 3 _⟩
theorem SAt.pP11{w:World}{b:Nat}{s:St}(h:SAt w b s)(u:Int):∃w',w'=w.setCell ⟨b,4,none⟩ (.int .i64 u)∧SAt w' b (s.setP11 u)∧Kept b w w':=⟨_,rfl,h.s4 u,kept_set w b 4 _⟩
theorem SAt.pM{w:World}{b:Nat}{s:St}(h:SAt w b s)(u:Int):∃w',w'=w.setCell ⟨b,6,none⟩ (.int .i64 u)∧SAt w' b (s.setM u)∧Kept b w w':=⟨_,rfl,h.s6 u,kept_set w b 6 _⟩
set_option maxHeartbeats 400000 in
theorem aOq (a b : Int) (ha : R64 a) (hb : R64 b) (w : World) :
  Calls Tryz.prog 136 #[.int .i64 a,.int .i64 b] w λe w'=>e=.returned (.tuple #[.int .i64 (gD (aCK a b)),.bool (jH (aCK a b))])∧w'=w:=by
 have Ha:=aA ha;have Hb:=aA hb
 have p0:=(aCX ha hb).1
 have p1:=(aCX ha hb).2
 obtain⟨x0,x1⟩:=uP ha
 obtain⟨y0,y1⟩:=uP hb
 obtain⟨a1,a2⟩:=ha;obtain⟨b1,b2⟩:=hb
 go_enter Tryz.func136,Tryz.ntmps136
 go_wp2_with fail
 refine (zQ a (unhide Ha) _).mono ?_
 rintro e w1 ⟨rfl,rfl⟩
 go_wp2_with fail
 refine (zQ b (unhide Hb) _).mono ?_
 rintro e w2 ⟨rfl,rfl⟩
 go_wp2_with fail
 refine (aIM (absZ a) (absZ b) x0 Yo y0 Yo _).mono ?_
 rintro e w3 ⟨rfl,rfl⟩
 go_wp2_with fail
 have hq:=aNd a b
 generalize hn:(!decide (a<0)==decide (b<0))=n
 rw[show negZ a b=n from hn] at hq
 clear hn
 generalize absZ a*absZ b=p at*
 have HQ:=aA hq
 clear hq
 refine (aLZ _ _).mono ?_
 rintro e w4 ⟨rfl,rfl⟩
 obtain⟨h0,h1⟩:=aLH n
 generalize halfZ n=h at*
 go_wp2_with (simp only[add64_0 (p%18446744073709551616) h Yo h0])
 ·have ho:=aMR p h p0 h0 (by assumption)
  refine (aCi n _).mono ?_
  rintro e w5 ⟨rfl,rfl⟩
  go_wp2_with fail
  go_ret2
  exact⟨by rw[unhide HQ,(aBs n _ Yo).1,(aBs n _ Yo).2];rfl,rfl⟩
 ·have hj:=aMM p h p0 h0 (by assumption)
  rw[hj.1]
  refine (vO n _ Yo hj.2 _).mono ?_
  rintro e w5 ⟨rfl,rfl⟩
  clear hj
  go_wp2_with fail
  go_ret2
  exact⟨by rw[unhide HQ];rfl,rfl⟩
set_option maxHeartbeats 400000 in
theorem xH (b : Nat) (s : St) (n : Int) (y : Bool) (w : World) (h : SAt w b s) :
  Calls Tryz.prog 133 #[uV b,.int .i64 n,.bool y] w λe w'=>
   e=.returned (.int .i64 n)∧SAt w' b (s.bend y)∧Kept b w w':=by
 obtain⟨w1,e1,a1,s1,k1,n1⟩:=oL h
 have q0:=a1.c0
 have c5:=s1.c5;have f5:=s1.free 5
 have H:=aA s1;have E1:=aA e1;have K1:=aA k1
 clear h s1 a1 e1 k1 n1
 have G:(∃x,x=s.B):=⟨_,rfl⟩
 obtain⟨x,ex⟩:=G
 rw[←ex] at c5
 have EX:=aA ex
 clear ex
 cases x
 ·go_enter Tryz.func133,Tryz.ntmps133
  go_wp2_with fail
  rw[←unhide E1]
  go_region
  go_wp2_with fail
  go_ret
  refine⟨rfl,?_,((unhide K1).trans (mJ _) (Or.inl rfl)).trans (kept_set _ _ _ _) (Or.inl rfl)⟩
  have:=(unhide H).s5 (s.B||y)
  rw[←unhide EX] at this
  unfold St.bend
  rw[←unhide EX]
  exact this
 ·go_enter Tryz.func133,Tryz.ntmps133
  go_wp2_with fail
  rw[←unhide E1]
  go_region
  go_wp2_with fail
  go_ret
  refine⟨rfl,?_,((unhide K1).trans (mJ _) (Or.inl rfl)).trans (kept_set _ _ _ _) (Or.inl rfl)⟩
  have:=(unhide H).s5 (s.B||y)
  rw[←unhide EX] at this
  unfold St.bend
  rw[←unhide EX]
  exact this
set_option maxHeartbeats 400000 in
theorem jW (b : Nat) (s : St) (a c : Int) (w : World) (ha : R64 a) (hc : R64 c) (h : SAt w b s) :
  Calls Tryz.prog 121 #[uV b,.int .i64 a,.int .i64 c] w λe w'=>
   e=.returned (.int .i64 (lS a c))∧SAt w' b (s.bend (adB a c))∧Kept b w w':=by
 obtain⟨w1,e1,a1,s1,k1,n1⟩:=oL h
 have HA:=aA ha;have HC:=aA hc;have H:=aA s1;have E1:=aA e1;have K1:=aA k1;have N1:=aA n1
 have hS:(λu=>HbAt u w.heap.size b) w1.drew:=a1
 clear ha hc h a1 e1 s1 k1 n1
 go_enter Tryz.func121,Tryz.ntmps121
 go_wp2_with fail
 rw[←unhide E1]
 refine fF (S:=λu=>HbAt u w.heap.size b) [(0,false),(1,false),(2,false),(3,true),(4,false),(5,false),(6,true),(7,true)] [] (by kernel_rfl) (by kernel_rfl) ?_
 iterate 3
  refine bO (v:=?_) rfl (λ_ _ _ h=>h) (by rfl) hS ?_ ?_
  rotate_left 1
  ·intro wx hwx
   have q0:=HbAt.c0 hwx
   go_simp<;>exact rfl
  go_frame
 refine bU rfl (λK hK=>?_)
 go_simp
 refine (aON a c (unhide HA) (unhide HC) _).mono ?_
 rintro e w2 ⟨rfl,rfl⟩
 refine hK _ _ (λ_=>hS) ?_
 clear hK K
 iterate 2
  refine bO (v:=?_) rfl (λ_ _ _ h=>h) (by rfl) hS ?_ ?_
  rotate_left 1
  ·intro wx hwx
   clear hwx
   go_simp<;>exact rfl
  go_frame
 refine bU rfl (λK hK=>?_)
 go_simp
 refine (xH b s _ _ _ (SAt.drewN (unhide H) _)).mono ?_
 rintro e w3 ⟨rfl,h3,k3⟩
 have hS3:=HbAt.kept hS k3 (unhide N1)
 refine hK _ _ (λ_=>hS3) ?_
 have H3:=aA h3;have K3:=aA (((unhide K1).trans (gJ _ 1) (Or.inl rfl)).trans k3 (Or.inl rfl))
 clear h3 k3 hK K hS
 refine bU rfl (λK hK=>?_)
 go_simp
 refine hK _ _ (λ_=>hS3) ?_
 clear hK K hS3
 refine gV ?_
 go_wp2_with fail
 go_ret
 exact⟨rfl,unhide H3,unhide K3⟩
set_option maxHeartbeats 400000 in
theorem sG (b : Nat) (s : St) (a c : Int) (w : World) (ha : R64 a) (hc : R64 c) (h : SAt w b s) :
  Calls Tryz.prog 120 #[uV b,.int .i64 a,.int .i64 c] w λe w'=>
   e=.returned (.int .i64 (sbC a c))∧SAt w' b (s.bend (sbE a c))∧Kept b w w':=by
 obtain⟨w1,e1,a1,s1,k1,n1⟩:=oL h
 have HA:=aA ha;have HC:=aA hc;have H:=aA s1;have E1:=aA e1;have K1:=aA k1;have N1:=aA n1
 have hS:(λu=>HbAt u w.heap.size b) w1.drew:=a1
 clear ha hc h a1 e1 s1 k1 n1
 go_enter Tryz.func120,Tryz.ntmps120
 go_wp2_with fail
 rw[←unhide E1]
 refine fF (S:=λu=>HbAt u w.heap.size b) [(0,false),(1,false),(2,false),(3,true),(4,false),(5,false),(6,true),(7,true)] [] (by kernel_rfl) (by kernel_rfl) ?_
 iterate 3
  refine bO (v:=?_) rfl (λ_ _ _ h=>h) (by rfl) hS ?_ ?_
  rotate_left 1
  ·intro wx hwx
   have q0:=HbAt.c0 hwx
   go_simp<;>exact rfl
  go_frame
 refine bU rfl (λK hK=>?_)
 go_simp
 refine (aPz a c (unhide HA) (unhide HC) _).mono ?_
 rintro e w2 ⟨rfl,rfl⟩
 refine hK _ _ (λ_=>hS) ?_
 clear hK K
 iterate 2
  refine bO (v:=?_) rfl (λ_ _ _ h=>h) (by rfl) hS ?_ ?_
  rotate_left 1
  ·intro wx hwx
   clear hwx
   go_simp<;>exact rfl
  go_frame
 refine bU rfl (λK hK=>?_)
 go_simp
 refine (xH b s _ _ _ (SAt.drewN (unhide H) _)).mono ?_
 rintro e w3 ⟨rfl,h3,k3⟩
 have hS3:=HbAt.kept hS k3 (unhide N1)
 refine hK _ _ (λ_=>hS3) ?_
 have H3:=aA h3;have K3:=aA (((unhide K1).trans (gJ _ 1) (Or.inl rfl)).trans k3 (Or.inl rfl))
 clear h3 k3 hK K hS
 refine bU rfl (λK hK=>?_)
 go_simp
 refine hK _ _ (λ_=>hS3) ?_
 clear hK K hS3
 refine gV ?_
 go_wp2_with fail
 go_ret
 exact⟨rfl,unhide H3,unhide K3⟩
set_option maxHeartbeats 400000 in
theorem iY (b : Nat) (s : St) (a c : Int) (w : World) (ha : R64 a) (hc : R64 c) (h : SAt w b s) :
  Calls Tryz.prog 122 #[uV b,.int .i64 a,.int .i64 c] w λe w'=>
   e=.returned (.int .i64 (eG a c))∧SAt w' b (s.bend (muB a c))∧Kept b w w':=by
 obtain⟨w1,e1,a1,s1,k1,n1⟩:=oL h
 have HA:=aA ha;have HC:=aA hc;have H:=aA s1;have E1:=aA e1;have K1:=aA k1;have N1:=aA n1
 have hS:(λu=>HbAt u w.heap.size b) w1.drew:=a1
 clear ha hc h a1 e1 s1 k1 n1
 go_enter Tryz.func122,Tryz.ntmps122
 go_wp2_with fail
 rw[←unhide E1]
 refine fF (S:=λu=>HbAt u w.heap.size b) [(0,false),(1,false),(2,false),(3,true),(4,false),(5,false),(6,true),(7,true)] [] (by kernel_rfl) (by kernel_rfl) ?_
 iterate 3
  refine bO (v:=?_) rfl (λ_ _ _ h=>h) (by rfl) hS ?_ ?_
  rotate_left 1
  ·intro wx hwx
   have q0:=HbAt.c0 hwx
   go_simp<;>exact rfl
  go_frame
 refine bU rfl (λK hK=>?_)
 go_simp
 refine (aOq a c (unhide HA) (unhide HC) _).mono ?_
 rintro e w2 ⟨rfl,rfl⟩
 refine hK _ _ (λ_=>hS) ?_
 clear hK K
 iterate 2
  refine bO (v:=?_) rfl (λ_ _ _ h=>h) (by rfl) hS ?_ ?_
  rotate_left 1
  ·intro wx hwx
   clear hwx
   go_simp<;>exact rfl
  go_frame
 refine bU rfl (λK hK=>?_)
 go_simp
 refine (xH b s _ _ _ (SAt.drewN (unhide H) _)).mono ?_
 rintro e w3 ⟨rfl,h3,k3⟩
 have hS3:=HbAt.kept hS k3 (unhide N1)
 refine hK _ _ (λ_=>hS3) ?_
 have H3:=aA h3;have K3:=aA (((unhide K1).trans (gJ _ 1) (Or.inl rfl)).trans k3 (Or.inl rfl))
 clear h3 k3 hK K hS
 refine bU rfl (λK hK=>?_)
 go_simp
 refine hK _ _ (λ_=>hS3) ?_
 clear hK K hS3
 refine gV ?_
 go_wp2_with fail
 go_ret
 exact⟨rfl,unhide H3,unhide K3⟩
set_option maxHeartbeats 400000 in
theorem aER (b : Nat) (s : St) (a c : Int) (w : World) (ha : R64 a) (hc : R64 c) (h : SAt w b s) :
  Calls Tryz.prog 137 #[uV b,.int .i64 a,.int .i64 c] w λe w'=>
   e=.returned (.int .i64 (fV a c))∧SAt w' b (s.bend (aCv a c))∧Kept b w w':=by
 obtain⟨w1,e1,a1,s1,k1,n1⟩:=oL h
 have HA:=aA ha;have HC:=aA hc;have H:=aA s1;have E1:=aA e1;have K1:=aA k1;have N1:=aA n1
 have hS:(λu=>HbAt u w.heap.size b) w1.drew:=a1
 clear ha hc h a1 e1 s1 k1 n1
 go_enter Tryz.func137,Tryz.ntmps137
 go_wp2_with fail
 rw[←unhide E1]
 refine fF (S:=λu=>HbAt u w.heap.size b) [(0,false),(1,false),(2,false),(3,true),(4,false),(5,false),(6,true),(7,true)] [] (by kernel_rfl) (by kernel_rfl) ?_
 iterate 3
  refine bO (v:=?_) rfl (λ_ _ _ h=>h) (by rfl) hS ?_ ?_
  rotate_left 1
  ·intro wx hwx
   have q0:=HbAt.c0 hwx
   go_simp<;>exact rfl
  go_frame
 refine bU rfl (λK hK=>?_)
 go_simp
 refine (aPu a c (unhide HA) (unhide HC) _).mono ?_
 rintro e w2 ⟨k,rfl,rfl⟩
 refine hK _ _ (λ_=>hS) ?_
 clear hK K
 iterate 2
  refine bO (v:=?_) rfl (λ_ _ _ h=>h) (by rfl) hS ?_ ?_
  rotate_left 1
  ·intro wx hwx
   clear hwx
   go_simp<;>exact rfl
  go_frame
 refine bU rfl (λK hK=>?_)
 go_simp
 refine (xH b s _ _ _ (SAt.drewN (unhide H) _)).mono ?_
 rintro e w3 ⟨rfl,h3,k3⟩
 have hS3:=HbAt.kept (w:=w1.drewN (1+k)) hS k3 (unhide N1)
 refine hK _ _ (λ_=>hS3) ?_
 have H3:=aA h3;have K3:=aA (((unhide K1).trans (gJ _ (1+k)) (Or.inl rfl)).trans k3 (Or.inl rfl))
 clear h3 k3 hK K hS
 refine bU rfl (λK hK=>?_)
 go_simp
 refine hK _ _ (λ_=>hS3) ?_
 clear hK K hS3
 refine gV ?_
 go_wp2_with fail
 go_ret
 exact⟨rfl,unhide H3,unhide K3⟩
set_option maxHeartbeats 2000000 in
theorem aEf (b : Nat) (s : St) (dt q : Int) (w : World) (hs : s.Ok) (hdt : R64 dt) (hq : R64 q) (h : SAt w b s) :
  Calls Tryz.prog 110 #[uV b,.int .i64 dt,.int .i64 q] w λe w'=>e=.returned (.tuple #[])∧SAt w' b (uK s dt q)∧Kept b w w':=by
 obtain⟨w1,e1,d1,s1,k1⟩:=tJ h
 have OK:=aA hs;have E1:=aA e1;have D1:=aA d1;have S1:=aA s1;have K1:=aA k1
 have Rdt:=aA hdt
 have Rq:=aA hq
 have a0:=h.c0;have a1:=h.c1;have a2:=h.c2;have a3:=h.c3;have a4:=h.c4;have a5:=h.c5;have a6:=h.c6;have lb:=h.lt
 clear hs e1 d1 s1 k1 h hdt hq
 go_enter Tryz.func110,Tryz.ntmps110
 go_wp2_with fail
 rw[←unhide E1]
 clear a0 a1 a2 a3 a4 a5 a6
 refine (iY b _ s.P01 dt _ (unhide OK).P01 (unhide Rdt) (unhide S1)).mono ?_
 rintro e w2 ⟨rfl,h,k⟩
 have D2:=aA ((unhide D1).kept k)
 clear D1
 have S2:=aA h;have K2:=aA ((unhide K1).trans k (Or.inl rfl))
 clear h k S1 K1
 have q0:=(unhide D2).hand.c0
 have c4:=(unhide D2).old.c4
 go_wp2_with fail
 clear q0 c4
 refine (iY b _ s.P11 dt _ (unhide OK).P11 (unhide Rdt) (unhide S2)).mono ?_
 rintro e w3 ⟨rfl,h,k⟩
 have D3:=aA ((unhide D2).kept k)
 clear D2
 have S3:=aA h;have K3:=aA ((unhide K2).trans k (Or.inl rfl))
 clear h k S2 K2
 have q0:=(unhide D3).hand.c0
 go_wp2_with fail
 clear q0
 have hS3:Hd w.heap.size b (w.heap.size+1) s w3.drew:=(unhide D3).drew
 clear D3
 refine fF (S:=Hd w.heap.size b (w.heap.size+1) s) [(0,false),(1,false),(2,false),(3,false),(4,false),(5,false),(6,false),(7,false),(8,false),(9,true),(10,true),(11,false),(12,false),(13,true)] [] (by kernel_rfl) (by kernel_rfl) ?_
 iterate 9
  refine bO (v:=?_) rfl (λ_ _ _ h=>h) (by rfl) hS3 ?_ ?_
  rotate_left 1
  ·intro wx hwx
   have q0:=hwx.hand.c0;have c0:=hwx.old.c0;have c1:=hwx.old.c1;have c2:=hwx.old.c2;have c3:=hwx.old.c3;have c4:=hwx.old.c4
   clear hwx
   go_simp<;>exact rfl
  go_frame
 refine bU rfl (λK hK=>?_)
 go_simp
 refine (iY b _ s.V dt _ (unhide OK).V (unhide Rdt) (SAt.drewN (unhide S3) 1)).mono ?_
 rintro e w4 ⟨rfl,h,k⟩
 have hS4:=hS3.kept k
 refine hK _ _ (λ_=>hS4) ?_
 clear hK K hS3
 have S4:=aA h;have K4:=aA (((unhide K3).trans (gJ _ 1) (Or.inl rfl)).trans k (Or.inl rfl))
 clear h k S3 K3
 refine bU rfl (λK hK=>?_)
 go_simp
 refine (jW b _ s.X (eG s.V dt) _ (unhide OK).X (qU _ _) (unhide S4)).mono ?_
 rintro e w5 ⟨rfl,h,k⟩
 have hS5:=hS4.kept k
 refine hK _ _ (λ_=>hS5) ?_
 clear hK K hS4
 have S5:=aA h;have K5:=aA ((unhide K4).trans k (Or.inl rfl))
 clear h k S4 K4
 iterate 2
  refine bO (v:=?_) rfl (λ_ _ _ h=>h) (by rfl) hS5 ?_ ?_
  rotate_left 1
  ·intro wx hwx
   have q0:=hwx.hand.c0;have c0:=hwx.old.c0;have c1:=hwx.old.c1;have c2:=hwx.old.c2;have c3:=hwx.old.c3;have c4:=hwx.old.c4
   clear hwx
   go_simp<;>exact rfl
  go_frame
 obtain⟨w6,e4,h,k⟩:=(unhide S5).pX (lS s.X (eG s.V dt))
 have c:=(unhide S5).c0;have f:=(unhide S5).free 0
 refine bU rfl (λK hK=>?_)
 go_simp
 rw[←e4]
 have D6:=aA (hS5.kept k)
 refine hK _ _ (λ_=>(unhide D6)) ?_
 have S6:=aA h;have K6:=aA ((unhide K5).trans k (Or.inl rfl))
 clear hK K e4 h k c f hS5 S5 K5
 refine gV ?_
 have q0:=(unhide D6).hand.c0
 go_wp2_with fail
 clear q0
 have hS6:Hd w.heap.size b (w.heap.size+1) s w6.drew:=(unhide D6).drew
 clear D6
 refine fF (S:=Hd w.heap.size b (w.heap.size+1) s) [(0,false),(1,false),(2,false),(3,false),(4,false),(5,false),(6,false),(7,false),(9,false),(11,false),(12,false),(13,false),(8,true),(10,true),(14,true),(15,true),(16,false),(17,false),(18,true)] [] (by kernel_rfl) (by kernel_rfl) ?_
 iterate 12
  refine bO (v:=?_) rfl (λ_ _ _ h=>h) (by rfl) hS6 ?_ ?_
  rotate_left 1
  ·intro wx hwx
   have q0:=hwx.hand.c0;have c0:=hwx.old.c0;have c1:=hwx.old.c1;have c2:=hwx.old.c2;have c3:=hwx.old.c3;have c4:=hwx.old.c4
   clear hwx
   go_simp<;>exact rfl
  go_frame
 refine bU rfl (λK hK=>?_)
 go_simp
 refine (jW b _ s.P00 (eG s.P01 dt) _ (unhide OK).P00 (qU _ _) (SAt.drewN (unhide S6) 1)).mono ?_
 rintro e w7 ⟨rfl,h,k⟩
 have hS7:=hS6.kept k
 refine hK _ _ (λ_=>hS7) ?_
 clear hK K hS6
 have S7:=aA h;have K7:=aA (((unhide K6).trans (gJ _ 1) (Or.inl rfl)).trans k (Or.inl rfl))
 clear h k S6 K6
 refine bU rfl (λK hK=>?_)
 go_simp
 refine (jW b _ (lS s.P00 (eG s.P01 dt)) (eG s.P01 dt) _ (qO _ _) (qU _ _) (unhide S7)).mono ?_
 rintro e w8 ⟨rfl,h,k⟩
 have hS8:=hS7.kept k
 refine hK _ _ (λ_=>hS8) ?_
 clear hK K hS7
 have S8:=aA h;have K8:=aA ((unhide K7).trans k (Or.inl rfl))
 clear h k S7 K7
 refine bU rfl (λK hK=>?_)
 go_simp
 refine (iY b _ (eG s.P11 dt) dt _ (qU _ _) (unhide Rdt) (unhide S8)).mono ?_
 rintro e w9 ⟨rfl,h,k⟩
 have hS9:=hS8.kept k
 refine hK _ _ (λ_=>hS9) ?_
 clear hK K hS8
 have S9:=aA h;have K9:=aA ((unhide K8).trans k (Or.inl rfl))
 clear h k S8 K8
 refine bU rfl (λK hK=>?_)
 go_simp
 refine (jW b _ (lS (lS s.P00 (eG s.P01 dt)) (eG s.P01 dt)) (eG (eG s.P11 dt) dt) _ (qO _ _) (qU _ _) (unhide S9)).mono ?_
 rintro e w10 ⟨rfl,h,k⟩
 have hS10:=hS9.kept k
 refine hK _ _ (λ_=>hS10) ?_
 clear hK K hS9
 have S10:=aA h;have K10:=aA ((unhide K9).trans k (Or.inl rfl))
 clear h k S9 K9
 iterate 2
  refine bO (v:=?_) rfl (λ_ _ _ h=>h) (by rfl) hS10 ?_ ?_
  rotate_left 1
  ·intro wx hwx
   have q0:=hwx.hand.c0;have c0:=hwx.old.c0;have c1:=hwx.old.c1;have c2:=hwx.old.c2;have c3:=hwx.old.c3;have c4:=hwx.old.c4
   clear hwx
   go_simp<;>exact rfl
  go_frame
 obtain⟨w11,e4,h,k⟩:=(unhide S10).pP00 (lS (lS (lS s.P00 (eG s.P01 dt)) (eG s.P01 dt)) (eG (eG s.P11 dt) dt))
 have c:=(unhide S10).c2;have f:=(unhide S10).free 2
 refine bU rfl (λK hK=>?_)
 go_simp
 rw[←e4]
 have D11:=aA (hS10.kept k)
 refine hK _ _ (λ_=>(unhide D11)) ?_
 have S11:=aA h;have K11:=aA ((unhide K10).trans k (Or.inl rfl))
 clear hK K e4 h k c f hS10 S10 K10
 refine gV ?_
 have q0:=(unhide D11).hand.c0
 go_wp2_with fail
 clear q0
 have hS11:Hd w.heap.size b (w.heap.size+1) s w11.drew:=(unhide D11).drew
 clear D11
 refine fF (S:=Hd w.heap.size b (w.heap.size+1) s) [(0,false),(1,false),(2,false),(3,false),(4,false),(5,false),(6,true),(7,false),(8,false),(9,true)] [] (by kernel_rfl) (by kernel_rfl) ?_
 iterate 6
  refine bO (v:=?_) rfl (λ_ _ _ h=>h) (by rfl) hS11 ?_ ?_
  rotate_left 1
  ·intro wx hwx
   have q0:=hwx.hand.c0;have c0:=hwx.old.c0;have c1:=hwx.old.c1;have c2:=hwx.old.c2;have c3:=hwx.old.c3;have c4:=hwx.old.c4
   clear hwx
   go_simp<;>exact rfl
  go_frame
 refine bU rfl (λK hK=>?_)
 go_simp
 refine (jW b _ s.P01 (eG s.P11 dt) _ (unhide OK).P01 (qU _ _) (SAt.drewN (unhide S11) 1)).mono ?_
 rintro e w12 ⟨rfl,h,k⟩
 have hS12:=hS11.kept k
 refine hK _ _ (λ_=>hS12) ?_
 clear hK K hS11
 have S12:=aA h;have K12:=aA (((unhide K11).trans (gJ _ 1) (Or.inl rfl)).trans k (Or.inl rfl))
 clear h k S11 K11
 iterate 2
  refine bO (v:=?_) rfl (λ_ _ _ h=>h) (by rfl) hS12 ?_ ?_
  rotate_left 1
  ·intro wx hwx
   have q0:=hwx.hand.c0;have c0:=hwx.old.c0;have c1:=hwx.old.c1;have c2:=hwx.old.c2;have c3:=hwx.old.c3;have c4:=hwx.old.c4
   clear hwx
   go_simp<;>exact rfl
  go_frame
 obtain⟨w13,e4,h,k⟩:=(unhide S12).pP01 (lS s.P01 (eG s.P11 dt))
 have c:=(unhide S12).c3;have f:=(unhide S12).free 3
 refine bU rfl (λK hK=>?_)
 go_simp
 rw[←e4]
 have D13:=aA (hS12.kept k)
 refine hK _ _ (λ_=>(unhide D13)) ?_
 have S13:=aA h;have K13:=aA ((unhide K12).trans k (Or.inl rfl))
 clear hK K e4 h k c f hS12 S12 K12
 refine gV ?_
 have q0:=(unhide D13).hand.c0
 go_wp2_with fail
 clear q0
 have hS13:Hd w.heap.size b (w.heap.size+1) s w13.drew:=(unhide D13).drew
 clear D13
 refine fF (S:=Hd w.heap.size b (w.heap.size+1) s) [(0,false),(1,false),(2,false),(3,false),(4,false),(5,false),(6,true),(7,false),(8,false),(9,true)] [] (by kernel_rfl) (by kernel_rfl) ?_
 iterate 6
  refine bO (v:=?_) rfl (λ_ _ _ h=>h) (by rfl) hS13 ?_ ?_
  rotate_left 1
  ·intro wx hwx
   have q0:=hwx.hand.c0;have c0:=hwx.old.c0;have c1:=hwx.old.c1;have c2:=hwx.old.c2;have c3:=hwx.old.c3;have c4:=hwx.old.c4
   clear hwx
   go_simp<;>exact rfl
  go_frame
 refine bU rfl (λK hK=>?_)
 go_simp
 refine (jW b _ s.P11 q _ (unhide OK).P11 (unhide Rq) (SAt.drewN (unhide S13) 1)).mono ?_
 rintro e w14 ⟨rfl,h,k⟩
 have hS14:=hS13.kept k
 refine hK _ _ (λ_=>hS14) ?_
 clear hK K hS13
 have S14:=aA h;have K14:=aA (((unhide K13).trans (gJ _ 1) (Or.inl rfl)).trans k (Or.inl rfl))
 clear h k S13 K13
 iterate 2
  refine bO (v:=?_) rfl (λ_ _ _ h=>h) (by rfl) hS14 ?_ ?_
  rotate_left 1
  ·intro wx hwx
   have q0:=hwx.hand.c0;have c0:=hwx.old.c0;have c1:=hwx.old.c1;have c2:=hwx.old.c2;have c3:=hwx.old.c3;have c4:=hwx.old.c4
   clear hwx
   go_simp<;>exact rfl
  go_frame
 obtain⟨w15,e4,h,k⟩:=(unhide S14).pP11 (lS s.P11 q)
 have c:=(unhide S14).c4;have f:=(unhide S14).free 4
 refine bU rfl (λK hK=>?_)
 go_simp
 rw[←e4]
 have D15:=aA (hS14.kept k)
 refine hK _ _ (λ_=>(unhide D15)) ?_
 have S15:=aA h;have K15:=aA ((unhide K14).trans k (Or.inl rfl))
 clear hK K e4 h k c f hS14 S14 K14
 refine gV ?_
 go_wp2_with fail
 go_end0
 exact⟨rfl,unhide S15,unhide K15⟩
set_option maxHeartbeats 2000000 in
theorem aJk (b : Nat) (s : St) (y d : Int) (w : World) (hs : s.Ok) (hy : R64 y) (hd : R64 d) (h : SAt w b s) :
  Calls Tryz.prog 123 #[uV b,.int .i64 y,.int .i64 d] w λe w'=>e=.returned (.tuple #[])∧SAt w' b (takeS s y d)∧Kept b w w':=by
 obtain⟨w1,e1,d1,s1,k1⟩:=tJ h
 have OK:=aA hs;have E1:=aA e1;have D1:=aA d1;have S1:=aA s1;have K1:=aA k1
 have Ry:=aA hy
 have Rd:=aA hd
 have a0:=h.c0;have a1:=h.c1;have a2:=h.c2;have a3:=h.c3;have a4:=h.c4;have a5:=h.c5;have a6:=h.c6;have lb:=h.lt
 clear hs e1 d1 s1 k1 h hy hd
 go_enter Tryz.func123,Tryz.ntmps123
 go_wp2_with fail
 rw[←unhide E1]
 clear a0 a1 a2 a3 a4 a5 a6
 refine (aER b _ s.P00 d _ (unhide OK).P00 (unhide Rd) (unhide S1)).mono ?_
 rintro e w2 ⟨rfl,h,k⟩
 have D2:=aA ((unhide D1).kept k)
 clear D1
 have S2:=aA h;have K2:=aA ((unhide K1).trans k (Or.inl rfl))
 clear h k S1 K1
 have q0:=(unhide D2).hand.c0
 have c3:=(unhide D2).old.c3
 go_wp2_with fail
 clear q0 c3
 refine (aER b _ s.P01 d _ (unhide OK).P01 (unhide Rd) (unhide S2)).mono ?_
 rintro e w3 ⟨rfl,h,k⟩
 have D3:=aA ((unhide D2).kept k)
 clear D2
 have S3:=aA h;have K3:=aA ((unhide K2).trans k (Or.inl rfl))
 clear h k S2 K2
 have q0:=(unhide D3).hand.c0
 go_wp2_with fail
 clear q0
 have hS3:Hd w.heap.size b (w.heap.size+1) s w3.drew:=(unhide D3).drew
 clear D3
 refine fF (S:=Hd w.heap.size b (w.heap.size+1) s) [(0,false),(1,false),(2,false),(3,false),(4,false),(5,false),(6,false),(7,false),(8,true),(9,true),(10,false),(11,false),(12,true)] [] (by kernel_rfl) (by kernel_rfl) ?_
 iterate 8
  refine bO (v:=?_) rfl (λ_ _ _ h=>h) (by rfl) hS3 ?_ ?_
  rotate_left 1
  ·intro wx hwx
   have q0:=hwx.hand.c0;have c0:=hwx.old.c0;have c1:=hwx.old.c1;have c2:=hwx.old.c2;have c3:=hwx.old.c3;have c4:=hwx.old.c4
   clear hwx
   go_simp<;>exact rfl
  go_frame
 refine bU rfl (λK hK=>?_)
 go_simp
 refine (iY b _ (fV s.P00 d) y _ (aAl _ _) (unhide Ry) (SAt.drewN (unhide S3) 1)).mono ?_
 rintro e w4 ⟨rfl,h,k⟩
 have hS4:=hS3.kept k
 refine hK _ _ (λ_=>hS4) ?_
 clear hK K hS3
 have S4:=aA h;have K4:=aA (((unhide K3).trans (gJ _ 1) (Or.inl rfl)).trans k (Or.inl rfl))
 clear h k S3 K3
 refine bU rfl (λK hK=>?_)
 go_simp
 refine (jW b _ s.X (eG (fV s.P00 d) y) _ (unhide OK).X (qU _ _) (unhide S4)).mono ?_
 rintro e w5 ⟨rfl,h,k⟩
 have hS5:=hS4.kept k
 refine hK _ _ (λ_=>hS5) ?_
 clear hK K hS4
 have S5:=aA h;have K5:=aA ((unhide K4).trans k (Or.inl rfl))
 clear h k S4 K4
 iterate 2
  refine bO (v:=?_) rfl (λ_ _ _ h=>h) (by rfl) hS5 ?_ ?_
  rotate_left 1
  ·intro wx hwx
   have q0:=hwx.hand.c0;have c0:=hwx.old.c0;have c1:=hwx.old.c1;have c2:=hwx.old.c2;have c3:=hwx.old.c3;have c4:=hwx.old.c4
   clear hwx
   go_simp<;>exact rfl
  go_frame
 obtain⟨w6,e4,h,k⟩:=(unhide S5).pX (lS s.X (eG (fV s.P00 d) y))
 have c:=(unhide S5).c0;have f:=(unhide S5).free 0
 refine bU rfl (λK hK=>?_)
 go_simp
 rw[←e4]
 have D6:=aA (hS5.kept k)
 refine hK _ _ (λ_=>(unhide D6)) ?_
 have S6:=aA h;have K6:=aA ((unhide K5).trans k (Or.inl rfl))
 clear hK K e4 h k c f hS5 S5 K5
 refine gV ?_
 have q0:=(unhide D6).hand.c0
 go_wp2_with fail
 clear q0
 have hS6:Hd w.heap.size b (w.heap.size+1) s w6.drew:=(unhide D6).drew
 clear D6
 refine fF (S:=Hd w.heap.size b (w.heap.size+1) s) [(0,false),(1,false),(2,false),(3,false),(4,false),(5,false),(6,false),(7,false),(8,true),(9,true),(10,false),(11,false),(12,true)] [] (by kernel_rfl) (by kernel_rfl) ?_
 iterate 8
  refine bO (v:=?_) rfl (λ_ _ _ h=>h) (by rfl) hS6 ?_ ?_
  rotate_left 1
  ·intro wx hwx
   have q0:=hwx.hand.c0;have c0:=hwx.old.c0;have c1:=hwx.old.c1;have c2:=hwx.old.c2;have c3:=hwx.old.c3;have c4:=hwx.old.c4
   clear hwx
   go_simp<;>exact rfl
  go_frame
 refine bU rfl (λK hK=>?_)
 go_simp
 refine (iY b _ (fV s.P01 d) y _ (aAl _ _) (unhide Ry) (SAt.drewN (unhide S6) 1)).mono ?_
 rintro e w7 ⟨rfl,h,k⟩
 have hS7:=hS6.kept k
 refine hK _ _ (λ_=>hS7) ?_
 clear hK K hS6
 have S7:=aA h;have K7:=aA (((unhide K6).trans (gJ _ 1) (Or.inl rfl)).trans k (Or.inl rfl))
 clear h k S6 K6
 refine bU rfl (λK hK=>?_)
 go_simp
 refine (jW b _ s.V (eG (fV s.P01 d) y) _ (unhide OK).V (qU _ _) (unhide S7)).mono ?_
 rintro e w8 ⟨rfl,h,k⟩
 have hS8:=hS7.kept k
 refine hK _ _ (λ_=>hS8) ?_
 clear hK K hS7
 have S8:=aA h;have K8:=aA ((unhide K7).trans k (Or.inl rfl))
 clear h k S7 K7
 iterate 2
  refine bO (v:=?_) rfl (λ_ _ _ h=>h) (by rfl) hS8 ?_ ?_
  rotate_left 1
  ·intro wx hwx
   have q0:=hwx.hand.c0;have c0:=hwx.old.c0;have c1:=hwx.old.c1;have c2:=hwx.old.c2;have c3:=hwx.old.c3;have c4:=hwx.old.c4
   clear hwx
   go_simp<;>exact rfl
  go_frame
 obtain⟨w9,e4,h,k⟩:=(unhide S8).pV (lS s.V (eG (fV s.P01 d) y))
 have c:=(unhide S8).c1;have f:=(unhide S8).free 1
 refine bU rfl (λK hK=>?_)
 go_simp
 rw[←e4]
 have D9:=aA (hS8.kept k)
 refine hK _ _ (λ_=>(unhide D9)) ?_
 have S9:=aA h;have K9:=aA ((unhide K8).trans k (Or.inl rfl))
 clear hK K e4 h k c f hS8 S8 K8
 refine gV ?_
 have q0:=(unhide D9).hand.c0
 go_wp2_with fail
 clear q0
 have hS9:Hd w.heap.size b (w.heap.size+1) s w9.drew:=(unhide D9).drew
 clear D9
 refine fF (S:=Hd w.heap.size b (w.heap.size+1) s) [(0,false),(1,false),(2,false),(3,false),(4,false),(5,false),(6,false),(7,false),(8,false),(9,true),(10,true),(11,false),(12,false),(13,true)] [] (by kernel_rfl) (by kernel_rfl) ?_
 iterate 9
  refine bO (v:=?_) rfl (λ_ _ _ h=>h) (by rfl) hS9 ?_ ?_
  rotate_left 1
  ·intro wx hwx
   have q0:=hwx.hand.c0;have c0:=hwx.old.c0;have c1:=hwx.old.c1;have c2:=hwx.old.c2;have c3:=hwx.old.c3;have c4:=hwx.old.c4
   clear hwx
   go_simp<;>exact rfl
  go_frame
 refine bU rfl (λK hK=>?_)
 go_simp
 refine (iY b _ (fV s.P00 d) s.P00 _ (aAl _ _) (unhide OK).P00 (SAt.drewN (unhide S9) 1)).mono ?_
 rintro e w10 ⟨rfl,h,k⟩
 have hS10:=hS9.kept k
 refine hK _ _ (λ_=>hS10) ?_
 clear hK K hS9
 have S10:=aA h;have K10:=aA (((unhide K9).trans (gJ _ 1) (Or.inl rfl)).trans k (Or.inl rfl))
 clear h k S9 K9
 refine bU rfl (λK hK=>?_)
 go_simp
 refine (sG b _ s.P00 (eG (fV s.P00 d) s.P00) _ (unhide OK).P00 (qU _ _) (unhide S10)).mono ?_
 rintro e w11 ⟨rfl,h,k⟩
 have hS11:=hS10.kept k
 refine hK _ _ (λ_=>hS11) ?_
 clear hK K hS10
 have S11:=aA h;have K11:=aA ((unhide K10).trans k (Or.inl rfl))
 clear h k S10 K10
 iterate 2
  refine bO (v:=?_) rfl (λ_ _ _ h=>h) (by rfl) hS11 ?_ ?_
  rotate_left 1
  ·intro wx hwx
   have q0:=hwx.hand.c0;have c0:=hwx.old.c0;have c1:=hwx.old.c1;have c2:=hwx.old.c2;have c3:=hwx.old.c3;have c4:=hwx.old.c4
   clear hwx
   go_simp<;>exact rfl
  go_frame
 obtain⟨w12,e4,h,k⟩:=(unhide S11).pP00 (sbC s.P00 (eG (fV s.P00 d) s.P00))
 have c:=(unhide S11).c2;have f:=(unhide S11).free 2
 refine bU rfl (λK hK=>?_)
 go_simp
 rw[←e4]
 have D12:=aA (hS11.kept k)
 refine hK _ _ (λ_=>(unhide D12)) ?_
 have S12:=aA h;have K12:=aA ((unhide K11).trans k (Or.inl rfl))
 clear hK K e4 h k c f hS11 S11 K11
 refine gV ?_
 have q0:=(unhide D12).hand.c0
 go_wp2_with fail
 clear q0
 have hS12:Hd w.heap.size b (w.heap.size+1) s w12.drew:=(unhide D12).drew
 clear D12
 refine fF (S:=Hd w.heap.size b (w.heap.size+1) s) [(0,false),(1,false),(2,false),(3,false),(4,false),(5,false),(6,false),(7,false),(8,false),(9,true),(10,true),(11,false),(12,false),(13,true)] [] (by kernel_rfl) (by kernel_rfl) ?_
 iterate 9
  refine bO (v:=?_) rfl (λ_ _ _ h=>h) (by rfl) hS12 ?_ ?_
  rotate_left 1
  ·intro wx hwx
   have q0:=hwx.hand.c0;have c0:=hwx.old.c0;have c1:=hwx.old.c1;have c2:=hwx.old.c2;have c3:=hwx.old.c3;have c4:=hwx.old.c4
   clear hwx
   go_simp<;>exact rfl
  go_frame
 refine bU rfl (λK hK=>?_)
 go_simp
 refine (iY b _ (fV s.P00 d) s.P01 _ (aAl _ _) (unhide OK).P01 (SAt.drewN (unhide S12) 1)).mono ?_
 rintro e w13 ⟨rfl,h,k⟩
 have hS13:=hS12.kept k
 refine hK _ _ (λ_=>hS13) ?_
 clear hK K hS12
 have S13:=aA h;have K13:=aA (((unhide K12).trans (gJ _ 1) (Or.inl rfl)).trans k (Or.inl rfl))
 clear h k S12 K12
 refine bU rfl (λK hK=>?_)
 go_simp
 refine (sG b _ s.P01 (eG (fV s.P00 d) s.P01) _ (unhide OK).P01 (qU _ _) (unhide S13)).mono ?_
 rintro e w14 ⟨rfl,h,k⟩
 have hS14:=hS13.kept k
 refine hK _ _ (λ_=>hS14) ?_
 clear hK K hS13
 have S14:=aA h;have K14:=aA ((unhide K13).trans k (Or.inl rfl))
 clear h k S13 K13
 iterate 2
  refine bO (v:=?_) rfl (λ_ _ _ h=>h) (by rfl) hS14 ?_ ?_
  rotate_left 1
  ·intro wx hwx
   have q0:=hwx.hand.c0;have c0:=hwx.old.c0;have c1:=hwx.old.c1;have c2:=hwx.old.c2;have c3:=hwx.old.c3;have c4:=hwx.old.c4
   clear hwx
   go_simp<;>exact rfl
  go_frame
 obtain⟨w15,e4,h,k⟩:=(unhide S14).pP01 (sbC s.P01 (eG (fV s.P00 d) s.P01))
 have c:=(unhide S14).c3;have f:=(unhide S14).free 3
 refine bU rfl (λK hK=>?_)
 go_simp
 rw[←e4]
 have D15:=aA (hS14.kept k)
 refine hK _ _ (λ_=>(unhide D15)) ?_
 have S15:=aA h;have K15:=aA ((unhide K14).trans k (Or.inl rfl))
 clear hK K e4 h k c f hS14 S14 K14
 refine gV ?_
 have q0:=(unhide D15).hand.c0
 go_wp2_with fail
 clear q0
 have hS15:Hd w.heap.size b (w.heap.size+1) s w15.drew:=(unhide D15).drew
 clear D15
 refine fF (S:=Hd w.heap.size b (w.heap.size+1) s) [(0,false),(1,false),(2,false),(3,false),(4,false),(5,false),(6,false),(7,false),(8,false),(9,true),(10,true),(11,false),(12,false),(13,true)] [] (by kernel_rfl) (by kernel_rfl) ?_
 iterate 9
  refine bO (v:=?_) rfl (λ_ _ _ h=>h) (by rfl) hS15 ?_ ?_
  rotate_left 1
  ·intro wx hwx
   have q0:=hwx.hand.c0;have c0:=hwx.old.c0;have c1:=hwx.old.c1;have c2:=hwx.old.c2;have c3:=hwx.old.c3;have c4:=hwx.old.c4
   clear hwx
   go_simp<;>exact rfl
  go_frame
 refine bU rfl (λK hK=>?_)
 go_simp
 refine (iY b _ (fV s.P01 d) s.P01 _ (aAl _ _) (unhide OK).P01 (SAt.drewN (unhide S15) 1)).mono ?_
 rintro e w16 ⟨rfl,h,k⟩
 have hS16:=hS15.kept k
 refine hK _ _ (λ_=>hS16) ?_
 clear hK K hS15
 have S16:=aA h;have K16:=aA (((unhide K15).trans (gJ _ 1) (Or.inl rfl)).trans k (Or.inl rfl))
 clear h k S15 K15
 refine bU rfl (λK hK=>?_)
 go_simp
 refine (sG b _ s.P11 (eG (fV s.P01 d) s.P01) _ (unhide OK).P11 (qU _ _) (unhide S16)).mono ?_
 rintro e w17 ⟨rfl,h,k⟩
 have hS17:=hS16.kept k
 refine hK _ _ (λ_=>hS17) ?_
 clear hK K hS16
 have S17:=aA h;have K17:=aA ((unhide K16).trans k (Or.inl rfl))
 clear h k S16 K16
 iterate 2
  refine bO (v:=?_) rfl (λ_ _ _ h=>h) (by rfl) hS17 ?_ ?_
  rotate_left 1
  ·intro wx hwx
   have q0:=hwx.hand.c0;have c0:=hwx.old.c0;have c1:=hwx.old.c1;have c2:=hwx.old.c2;have c3:=hwx.old.c3;have c4:=hwx.old.c4
   clear hwx
   go_simp<;>exact rfl
  go_frame
 obtain⟨w18,e4,h,k⟩:=(unhide S17).pP11 (sbC s.P11 (eG (fV s.P01 d) s.P01))
 have c:=(unhide S17).c4;have f:=(unhide S17).free 4
 refine bU rfl (λK hK=>?_)
 go_simp
 rw[←e4]
 have D18:=aA (hS17.kept k)
 refine hK _ _ (λ_=>(unhide D18)) ?_
 have S18:=aA h;have K18:=aA ((unhide K17).trans k (Or.inl rfl))
 clear hK K e4 h k c f hS17 S17 K17
 refine gV ?_
 have q0:=(unhide D18).hand.c0;have c:=(unhide S18).c6;have f:=(unhide S18).free 6
 obtain⟨w19,e4,h,k⟩:=(unhide S18).pM 0
 have S19:=aA h;have K19:=aA ((unhide K18).trans k (Or.inl rfl));have E4:=aA e4
 clear h k e4
 go_wp2_with fail
 rw[←unhide E4]
 go_end0
 exact⟨rfl,unhide S19,unhide K19⟩
theorem St.Ok.bend{s:St}(h:s.Ok)(x:Bool):(s.bend x).Ok:=⟨h.X,h.V,h.P00,h.P01,h.P11,h.M⟩
theorem aJo{s:St}{z r gate:Int}(h:offW s r≤0):qY s z r gate=true:=by unfold qY;rw[decide_eq_true h,Bool.true_or]
theorem aHS{s:St}{z r gate:Int}(h:eG gate (offW s r)<eG (offY s z) (offY s z)):qY s z r gate=true:=by unfold qY;rw[decide_eq_true h,Bool.or_true]
theorem aJd{s:St}{z r gate:Int}(h:¬offW s r≤0)(h2:¬eG gate (offW s r)<eG (offY s z) (offY s z)):qY s z r gate=false:=by unfold qY;rw[decide_eq_false h,decide_eq_false h2];rfl
theorem SAt.back{w:World}{b:Nat}{s:St}(h:SAt w b s)(t:St):∃w',w'=(((((((w.setCell ⟨b,0,none⟩ (.int .i64 t.X)).setCell ⟨b,1,none⟩ (.int .i64 t.V)).setCell ⟨b,2,none⟩ (.int .i64 t.P00)).setCell ⟨b,3,none⟩ (.int .i64 t.P01)).setCell ⟨b,4,none⟩ (.int .i64 t.P11)).setCell ⟨b,5,none⟩ (.bool t.B)).setCell ⟨b,6,none⟩ (.int .i64 t.M)).setCell ⟨b,6,none⟩ (.int .i64 (wrap64 (t.M+1)))∧SAt w' b (t.setM (moreM t.M))∧Kept b w w':=by
 obtain⟨w1,e1,h1,k1⟩:=h.put t
 obtain⟨w2,e2,h2,k2⟩:=h1.pM (moreM t.M)
 exact⟨w2,by rw[e2,e1];rfl,h2,k1.trans k2 (Or.inl rfl)⟩
set_option maxHeartbeats 8000000 in
theorem aFT (b : Nat) (s : St) (z r gate : Int) (w : World) (hs : s.Ok) (hz : R64 z) (hr : R64 r) (hg : R64 gate) (h : SAt w b s) (hd : offW s r ≤ 0) :
  Calls Tryz.prog 109 #[uV b,.int .i64 z,.int .i64 r,.int .i64 gate] w λe w'=>e=.returned (.bool (wE s z r gate))∧SAt w' b (rT s z r gate)∧Kept b w w':=by
 obtain⟨y,ey⟩:∃y,y=offY s z:=⟨_,rfl⟩
 obtain⟨d,ed⟩:∃d,d=offW s r:=⟨_,rfl⟩
 rw[←ed] at hd
 have EY:=aA ey;have ED:=aA ed
 have RY:=aA (show R64 y by rw[ey];exact aAR _ _);have RD:=aA (show R64 d by rw[ed];exact qO _ _)
 clear ey ed
 obtain⟨w1,e1,d1,s1,k1⟩:=tJ h
 have OK:=aA hs;have E1:=aA e1;have D1:=aA d1;have S1:=aA s1;have K1:=aA k1
 have Rz:=aA hz;have Rr:=aA hr;have Rg:=aA hg
 have a0:=h.c0;have a1:=h.c1;have a2:=h.c2;have a3:=h.c3;have a4:=h.c4;have a5:=h.c5;have a6:=h.c6;have lb:=h.lt
 clear hs e1 d1 s1 k1 h hz hr hg
 go_enter Tryz.func109,Tryz.ntmps109
 go_wp2_with fail
 rw[←unhide E1]
 clear a0 a1 a2 a3 a4 a5 a6
 refine (sG b _ z s.X _ (unhide Rz) (unhide OK).X (unhide S1)).mono ?_
 rintro e w2 ⟨rfl,h,k⟩
 have D2:=aA ((unhide D1).kept k)
 have S2:=aA h;have K2:=aA ((unhide K1).trans k (Or.inl rfl))
 clear h k S1 K1 D1
 have q0:=(unhide D2).hand.c0
 have c2:=(unhide D2).old.c2
 go_wp2_with fail
 clear q0 c2
 refine (jW b _ s.P00 r _ (unhide OK).P00 (unhide Rr) (unhide S2)).mono ?_
 rintro e w3 ⟨rfl,h,k⟩
 have D3:=aA ((unhide D2).kept k)
 have S3:=aA h;have K3:=aA ((unhide K2).trans k (Or.inl rfl))
 clear h k S2 K2 D2
 rw[show sbC z s.X=y from (unhide EY).symm,show lS s.P00 r=d from (unhide ED).symm]
 go_wp2_with fail
 have q0:=(unhide D3).hand.c0
 go_region
 have D:=aA (unhide D3).drew;have S:=aA (unhide S3).drew;have K:=aA ((unhide K3).trans (mJ w3) (Or.inl rfl))
 clear D3 S3 K3 q0
 generalize w3.drew=u at*
 have q0:=(unhide D).hand.c0;have n1:=(unhide D).n1;have n2:=(unhide D).n2
 have c0:=(unhide D).old.c0;have c1:=(unhide D).old.c1;have c2:=(unhide D).old.c2;have c3:=(unhide D).old.c3;have c4:=(unhide D).old.c4;have c5:=(unhide D).old.c5;have c6:=(unhide D).old.c6
 have b0:=(unhide S).c0;have b1:=(unhide S).c1;have b2:=(unhide S).c2;have b3:=(unhide S).c3;have b4:=(unhide S).c4;have b5:=(unhide S).c5;have b6:=(unhide S).c6
 have f0:=(unhide S).free 0;have f1:=(unhide S).free 1;have f2:=(unhide S).free 2;have f3:=(unhide S).free 3;have f4:=(unhide S).free 4;have f5:=(unhide S).free 5;have f6:=(unhide S).free 6
 obtain⟨w4,e4,h4,k4⟩:=(unhide S).back s
 have E4:=aA e4;have S4:=aA h4;have K4:=aA ((unhide K).trans k4 (Or.inl rfl))
 clear e4 h4 k4
 go_wp2_with fail
 rw[←unhide E4]
 go_ret
 have OV:qY s z r gate=true:=by apply aJo;rw[←unhide ED];exact hd
 unfold wE rT;rw[OV]
 exact⟨rfl,unhide S4,unhide K4⟩
set_option maxHeartbeats 8000000 in
theorem aFh (b : Nat) (s : St) (z r gate : Int) (w : World) (hs : s.Ok) (hz : R64 z) (hr : R64 r) (hg : R64 gate) (h : SAt w b s) (hd : ¬ offW s r ≤ 0) (hp : eG gate (offW s r) < eG (offY s z) (offY s z)) :
  Calls Tryz.prog 109 #[uV b,.int .i64 z,.int .i64 r,.int .i64 gate] w λe w'=>e=.returned (.bool (wE s z r gate))∧SAt w' b (rT s z r gate)∧Kept b w w':=by
 obtain⟨y,ey⟩:∃y,y=offY s z:=⟨_,rfl⟩
 obtain⟨d,ed⟩:∃d,d=offW s r:=⟨_,rfl⟩
 rw[←ed] at hd hp
 rw[←ey] at hp
 have EY:=aA ey;have ED:=aA ed
 have RY:=aA (show R64 y by rw[ey];exact aAR _ _);have RD:=aA (show R64 d by rw[ed];exact qO _ _)
 clear ey ed
 obtain⟨w1,e1,d1,s1,k1⟩:=tJ h
 have OK:=aA hs;have E1:=aA e1;have D1:=aA d1;have S1:=aA s1;have K1:=aA k1
 have Rz:=aA hz;have Rr:=aA hr;have Rg:=aA hg
 have a0:=h.c0;have a1:=h.c1;have a2:=h.c2;have a3:=h.c3;have a4:=h.c4;have a5:=h.c5;have a6:=h.c6;have lb:=h.lt
 clear hs e1 d1 s1 k1 h hz hr hg
 go_enter Tryz.func109,Tryz.ntmps109
 go_wp2_with fail
 rw[←unhide E1]
 clear a0 a1 a2 a3 a4 a5 a6
 refine (sG b _ z s.X _ (unhide Rz) (unhide OK).X (unhide S1)).mono ?_
 rintro e w2 ⟨rfl,h,k⟩
 have D2:=aA ((unhide D1).kept k)
 have S2:=aA h;have K2:=aA ((unhide K1).trans k (Or.inl rfl))
 clear h k S1 K1 D1
 have q0:=(unhide D2).hand.c0
 have c2:=(unhide D2).old.c2
 go_wp2_with fail
 clear q0 c2
 refine (jW b _ s.P00 r _ (unhide OK).P00 (unhide Rr) (unhide S2)).mono ?_
 rintro e w3 ⟨rfl,h,k⟩
 have D3:=aA ((unhide D2).kept k)
 have S3:=aA h;have K3:=aA ((unhide K2).trans k (Or.inl rfl))
 clear h k S2 K2 D2
 rw[show sbC z s.X=y from (unhide EY).symm,show lS s.P00 r=d from (unhide ED).symm]
 go_wp2_with fail
 have hS3:Hd w.heap.size b (w.heap.size+1) s w3.drew:=(unhide D3).drew
 clear D3
 refine fF (S:=Hd w.heap.size b (w.heap.size+1) s) [(0,false),(1,false),(2,false),(3,false),(4,false),(5,false),(7,false),(8,false),(9,false),(6,true),(10,true),(11,true),(12,true)] [] (by kernel_rfl) (by kernel_rfl) ?_
 refine bO (v:=.int .i64 d) rfl (λ_ _ _ h=>h) (by rfl) hS3 ?_ ?_
 ·intro wx hwx
  have q0:=hwx.hand.c0
  clear hwx
  go_simp
 show iZ _ _ _ _ _ _ (Act.put _ (some 26) _) _
 go_frame
 refine bO (v:=.bool false) rfl (λ_ _ _ h=>h) (by rfl) hS3 ?_ ?_
 ·intro wx hwx
  have q0:=hwx.hand.c0
  clear hwx
  go_simp
 show iZ _ _ _ _ _ _ (Act.put _ (some 27) _) _
 go_frame
 refine bO (v:=.bool false) rfl (λ_ _ _ h=>h) (by rfl) hS3 ?_ ?_
 ·intro wx hwx
  have q0:=hwx.hand.c0
  clear hwx
  go_simp
 show iZ _ _ _ _ _ _ (Act.put _ (some 28) _) _
 go_frame
 refine bO (v:=uV b) rfl (λ_ _ _ h=>h) (by go_simp) hS3 ?_ ?_
 ·intro wx hwx
  have q0:=hwx.hand.c0
  clear hwx
  go_simp
 show iZ _ _ _ _ _ _ (Act.put _ (some 29) _) _
 go_frame
 refine bO (v:=.int .i64 y) rfl (λ_ _ _ h=>h) (by go_simp) hS3 ?_ ?_
 ·intro wx hwx
  have q0:=hwx.hand.c0
  clear hwx
  go_simp
 show iZ _ _ _ _ _ _ (Act.put _ (some 30) _) _
 go_frame
 refine bO (v:=.int .i64 y) rfl (λ_ _ _ h=>h) (by go_simp) hS3 ?_ ?_
 ·intro wx hwx
  have q0:=hwx.hand.c0
  clear hwx
  go_simp
 show iZ _ _ _ _ _ _ (Act.put _ (some 31) _) _
 go_frame
 refine bO (v:=uV b) rfl (λ_ _ _ h=>h) (by go_simp) hS3 ?_ ?_
 ·intro wx hwx
  have q0:=hwx.hand.c0
  clear hwx
  go_simp
 show iZ _ _ _ _ _ _ (Act.put _ (some 33) _) _
 go_frame
 refine bO (v:=.int .i64 gate) rfl (λ_ _ _ h=>h) (by go_simp) hS3 ?_ ?_
 ·intro wx hwx
  have q0:=hwx.hand.c0
  clear hwx
  go_simp
 show iZ _ _ _ _ _ _ (Act.put _ (some 34) _) _
 go_frame
 refine bO (v:=.int .i64 d) rfl (λ_ _ _ h=>h) (by go_simp) hS3 ?_ ?_
 ·intro wx hwx
  have q0:=hwx.hand.c0
  clear hwx
  go_simp
 show iZ _ _ _ _ _ _ (Act.put _ (some 35) _) _
 go_frame
 refine bU rfl (λK hK=>?_)
 go_simp
 refine (iY b _ y y _ (unhide RY) (unhide RY) (SAt.drew (unhide S3))).mono ?_
 rintro e w4 ⟨rfl,h,k⟩
 have hS4:=hS3.kept k
 refine hK _ _ (λ_=>hS4) ?_
 clear hK K hS3
 have S4:=aA h;have K4:=aA (((unhide K3).trans (mJ w3) (Or.inl rfl)).trans k (Or.inl rfl))
 clear h k S3 K3
 refine bU rfl (λK hK=>?_)
 go_simp
 refine (iY b _ gate d _ (unhide Rg) (unhide RD) (unhide S4)).mono ?_
 rintro e w5 ⟨rfl,h,k⟩
 have hS5:=hS4.kept k
 refine hK _ _ (λ_=>hS5) ?_
 clear hK K hS4
 have S:=aA h;have K5:=aA ((unhide K4).trans k (Or.inl rfl));have D:=aA hS5
 clear h k S4 K4
 refine bU rfl (λK hK=>?_)
 go_simp
 refine hK _ _ (λ_=>hS5) ?_
 clear hK K
 refine bU rfl (λK hK=>?_)
 go_simp
 refine hK _ _ (λ_=>hS5) ?_
 clear hK K hS5
 refine gV ?_
 have K:=K5
 clear K5
 have q0:=(unhide D).hand.c0;have n1:=(unhide D).n1;have n2:=(unhide D).n2
 have c0:=(unhide D).old.c0;have c1:=(unhide D).old.c1;have c2:=(unhide D).old.c2;have c3:=(unhide D).old.c3;have c4:=(unhide D).old.c4;have c5:=(unhide D).old.c5;have c6:=(unhide D).old.c6
 have b0:=(unhide S).c0;have b1:=(unhide S).c1;have b2:=(unhide S).c2;have b3:=(unhide S).c3;have b4:=(unhide S).c4;have b5:=(unhide S).c5;have b6:=(unhide S).c6
 have f0:=(unhide S).free 0;have f1:=(unhide S).free 1;have f2:=(unhide S).free 2;have f3:=(unhide S).free 3;have f4:=(unhide S).free 4;have f5:=(unhide S).free 5;have f6:=(unhide S).free 6
 obtain⟨w4,e4,h4,k4⟩:=(unhide S).back s
 have E4:=aA e4;have S4:=aA h4;have K4:=aA ((unhide K).trans k4 (Or.inl rfl))
 clear e4 h4 k4
 go_wp2_with fail
 rw[←unhide E4]
 go_ret
 have OV:qY s z r gate=true:=by apply aHS;rw[←unhide ED, ←unhide EY];exact hp
 unfold wE rT;rw[OV]
 exact⟨rfl,unhide S4,unhide K4⟩
set_option maxHeartbeats 8000000 in
theorem aEj (b : Nat) (s : St) (z r gate : Int) (w : World) (hs : s.Ok) (hz : R64 z) (hr : R64 r) (hg : R64 gate) (h : SAt w b s) (hd : ¬ offW s r ≤ 0) (hp : ¬ eG gate (offW s r) < eG (offY s z) (offY s z)) :
  Calls Tryz.prog 109 #[uV b,.int .i64 z,.int .i64 r,.int .i64 gate] w λe w'=>e=.returned (.bool (wE s z r gate))∧SAt w' b (rT s z r gate)∧Kept b w w':=by
 obtain⟨y,ey⟩:∃y,y=offY s z:=⟨_,rfl⟩
 obtain⟨d,ed⟩:∃d,d=offW s r:=⟨_,rfl⟩
 rw[←ed] at hd hp
 rw[←ey] at hp
 have EY:=aA ey;have ED:=aA ed
 have RY:=aA (show R64 y by rw[ey];exact aAR _ _);have RD:=aA (show R64 d by rw[ed];exact qO _ _)
 clear ey ed
 obtain⟨w1,e1,d1,s1,k1⟩:=tJ h
 have OK:=aA hs;have E1:=aA e1;have D1:=aA d1;have S1:=aA s1;have K1:=aA k1
 have Rz:=aA hz;have Rr:=aA hr;have Rg:=aA hg
 have a0:=h.c0;have a1:=h.c1;have a2:=h.c2;have a3:=h.c3;have a4:=h.c4;have a5:=h.c5;have a6:=h.c6;have lb:=h.lt
 clear hs e1 d1 s1 k1 h hz hr hg
 go_enter Tryz.func109,Tryz.ntmps109
 go_wp2_with fail
 rw[←unhide E1]
 clear a0 a1 a2 a3 a4 a5 a6
 refine (sG b _ z s.X _ (unhide Rz) (unhide OK).X (unhide S1)).mono ?_
 rintro e w2 ⟨rfl,h,k⟩
 have D2:=aA ((unhide D1).kept k)
 have S2:=aA h;have K2:=aA ((unhide K1).trans k (Or.inl rfl))
 clear h k S1 K1 D1
 have q0:=(unhide D2).hand.c0
 have c2:=(unhide D2).old.c2
 go_wp2_with fail
 clear q0 c2
 refine (jW b _ s.P00 r _ (unhide OK).P00 (unhide Rr) (unhide S2)).mono ?_
 rintro e w3 ⟨rfl,h,k⟩
 have D3:=aA ((unhide D2).kept k)
 have S3:=aA h;have K3:=aA ((unhide K2).trans k (Or.inl rfl))
 clear h k S2 K2 D2
 rw[show sbC z s.X=y from (unhide EY).symm,show lS s.P00 r=d from (unhide ED).symm]
 go_wp2_with fail
 have hS3:Hd w.heap.size b (w.heap.size+1) s w3.drew:=(unhide D3).drew
 clear D3
 refine fF (S:=Hd w.heap.size b (w.heap.size+1) s) [(0,false),(1,false),(2,false),(3,false),(4,false),(5,false),(7,false),(8,false),(9,false),(6,true),(10,true),(11,true),(12,true)] [] (by kernel_rfl) (by kernel_rfl) ?_
 refine bO (v:=.int .i64 d) rfl (λ_ _ _ h=>h) (by rfl) hS3 ?_ ?_
 ·intro wx hwx
  have q0:=hwx.hand.c0
  clear hwx
  go_simp
 show iZ _ _ _ _ _ _ (Act.put _ (some 26) _) _
 go_frame
 refine bO (v:=.bool false) rfl (λ_ _ _ h=>h) (by rfl) hS3 ?_ ?_
 ·intro wx hwx
  have q0:=hwx.hand.c0
  clear hwx
  go_simp
 show iZ _ _ _ _ _ _ (Act.put _ (some 27) _) _
 go_frame
 refine bO (v:=.bool false) rfl (λ_ _ _ h=>h) (by rfl) hS3 ?_ ?_
 ·intro wx hwx
  have q0:=hwx.hand.c0
  clear hwx
  go_simp
 show iZ _ _ _ _ _ _ (Act.put _ (some 28) _) _
 go_frame
 refine bO (v:=uV b) rfl (λ_ _ _ h=>h) (by go_simp) hS3 ?_ ?_
 ·intro wx hwx
  have q0:=hwx.hand.c0
  clear hwx
  go_simp
 show iZ _ _ _ _ _ _ (Act.put _ (some 29) _) _
 go_frame
 refine bO (v:=.int .i64 y) rfl (λ_ _ _ h=>h) (by go_simp) hS3 ?_ ?_
 ·intro wx hwx
  have q0:=hwx.hand.c0
  clear hwx
  go_simp
 show iZ _ _ _ _ _ _ (Act.put _ (some 30) _) _
 go_frame
 refine bO (v:=.int .i64 y) rfl (λ_ _ _ h=>h) (by go_simp) hS3 ?_ ?_
 ·intro wx hwx
  have q0:=hwx.hand.c0
  clear hwx
  go_simp
 show iZ _ _ _ _ _ _ (Act.put _ (some 31) _) _
 go_frame
 refine bO (v:=uV b) rfl (λ_ _ _ h=>h) (by go_simp) hS3 ?_ ?_
 ·intro wx hwx
  have q0:=hwx.hand.c0
  clear hwx
  go_simp
 show iZ _ _ _ _ _ _ (Act.put _ (some 33) _) _
 go_frame
 refine bO (v:=.int .i64 gate) rfl (λ_ _ _ h=>h) (by go_simp) hS3 ?_ ?_
 ·intro wx hwx
  have q0:=hwx.hand.c0
  clear hwx
  go_simp
 show iZ _ _ _ _ _ _ (Act.put _ (some 34) _) _
 go_frame
 refine bO (v:=.int .i64 d) rfl (λ_ _ _ h=>h) (by go_simp) hS3 ?_ ?_
 ·intro wx hwx
  have q0:=hwx.hand.c0
  clear hwx
  go_simp
 show iZ _ _ _ _ _ _ (Act.put _ (some 35) _) _
 go_frame
 refine bU rfl (λK hK=>?_)
 go_simp
 refine (iY b _ y y _ (unhide RY) (unhide RY) (SAt.drew (unhide S3))).mono ?_
 rintro e w4 ⟨rfl,h,k⟩
 have hS4:=hS3.kept k
 refine hK _ _ (λ_=>hS4) ?_
 clear hK K hS3
 have S4:=aA h;have K4:=aA (((unhide K3).trans (mJ w3) (Or.inl rfl)).trans k (Or.inl rfl))
 clear h k S3 K3
 refine bU rfl (λK hK=>?_)
 go_simp
 refine (iY b _ gate d _ (unhide Rg) (unhide RD) (unhide S4)).mono ?_
 rintro e w5 ⟨rfl,h,k⟩
 have hS5:=hS4.kept k
 refine hK _ _ (λ_=>hS5) ?_
 clear hK K hS4
 have S:=aA h;have K5:=aA ((unhide K4).trans k (Or.inl rfl));have D:=aA hS5
 clear h k S4 K4
 refine bU rfl (λK hK=>?_)
 go_simp
 refine hK _ _ (λ_=>hS5) ?_
 clear hK K
 refine bU rfl (λK hK=>?_)
 go_simp
 refine hK _ _ (λ_=>hS5) ?_
 clear hK K hS5
 refine gV ?_
 have K:=K5
 clear K5
 have q0:=(unhide D).hand.c0
 go_wp2_with fail
 clear q0
 refine (aJk b _ y d _ (((((unhide OK).bend _).bend _).bend _).bend _) (unhide RY) (unhide RD) (unhide S)).mono ?_
 rintro e w6 ⟨rfl,h,k⟩
 have S6:=aA h;have K6:=aA ((unhide K).trans k (Or.inl rfl))
 clear h k S K D
 go_wp2_with fail
 go_ret
 have OV:qY s z r gate=false:=by apply aJd<;>rw[←unhide ED]<;>first|(rw[←unhide EY];omega)|omega
 unfold wE rT;rw[OV]
 refine⟨rfl,?_,unhide K6⟩
 have h6:=unhide S6
 rw[unhide EY,unhide ED] at h6
 exact h6
theorem aGb (b : Nat) (s : St) (z r gate : Int) (w : World) (hs : s.Ok) (hz : R64 z) (hr : R64 r) (hg : R64 gate) (h : SAt w b s) :
  Calls Tryz.prog 109 #[uV b,.int .i64 z,.int .i64 r,.int .i64 gate] w λe w'=>e=.returned (.bool (wE s z r gate))∧SAt w' b (rT s z r gate)∧Kept b w w':=by
 by_cases hd:offW s r≤0
 ·exact aFT b s z r gate w hs hz hr hg h hd
 ·by_cases hp:eG gate (offW s r)<eG (offY s z) (offY s z)
  ·exact aFh b s z r gate w hs hz hr hg h hd hp
  ·exact aEj b s z r gate w hs hz hr hg h hd hp
theorem wV(w:World)(s:St):∃w1,w1=w.alloc (.cells #[.int .i64 s.X,.int .i64 s.V,.int .i64 s.P00,.int .i64 s.P01,.int .i64 s.P11,.bool s.B,.int .i64 s.M] 45)∧SAt w1 w.heap.size s∧Below w.heap.size w w1∧w1.heap.size=w.heap.size+1:=
 ⟨_,rfl,SAt.new w s,bR w _,dC w _⟩
theorem aCU (w : World) (s : St) : ∃ w2, w2 = (w.alloc (.cells #[.int .i64 s.X, .int .i64 s.V, .int .i64 s.P00, .int .i64 s.P01, .int .i64 s.P11, .bool s.B, .int .i64 s.M] 45)).alloc (.cells #[.int .i64 0, .int .i64 0, .int .i64 0, .int .i64 0, .int .i64 0, .bool false, .int .i64 0] 45) ∧
  SAt w2 w.heap.size s∧SAt w2 (w.heap.size+1) St.nil∧Below w.heap.size w w2:=by
 obtain⟨w1,e1,h1,k1,z1⟩:=wV w s
 obtain⟨w2,e2,h2,k2,z2⟩:=wV w1 St.nil
 rw[z1] at h2
 exact⟨w2,by rw[e2,e1];rfl,h1.below k2,h2,k1.trans (k2.mono k1.size)⟩
set_option maxHeartbeats 400000 in
theorem aFD (s : St) (dt q : Int) (w : World) (hs : s.Ok) (hdt : R64 dt) (hq : R64 q) :
  Calls Tryz.prog 92 #[stV s,.int .i64 dt,.int .i64 q] w λe w'=>e=.returned (stV (uK s dt q))∧Below w.heap.size w w':=by
 obtain⟨w2,e2,h2,g2,k2⟩:=aCU w s
 have OK:=aA hs;have RD:=aA hdt;have RQ:=aA hq;have E2:=aA e2;have H2:=aA h2;have G2:=aA g2;have K2:=aA k2
 clear hs hdt hq e2 h2 g2 k2
 go_enter Tryz.func92,Tryz.ntmps92
 go_wp2_with fail
 rw[←unhide E2]
 refine (aEf w.heap.size s dt q _ (unhide OK) (unhide RD) (unhide RQ) (unhide H2)).mono ?_
 rintro e w3 ⟨rfl,h3,k3⟩
 have g3:=(unhide G2).kept k3 Yo
 have K3:=aA (aC (unhide K2) k3 (Nat.le_refl _) (unhide K2).size)
 obtain⟨t,et⟩:∃t,t=uK s dt q:=⟨_,rfl⟩
 rw[←et] at h3
 have ET:=aA et
 have c0:=h3.c0;have c1:=h3.c1;have c2:=h3.c2;have c3:=h3.c3;have c4:=h3.c4;have c5:=h3.c5;have c6:=h3.c6
 have b0:=g3.c0;have b1:=g3.c1;have b2:=g3.c2;have b3:=g3.c3;have b4:=g3.c4;have b5:=g3.c5;have b6:=g3.c6
 have f0:=g3.free 0;have f1:=g3.free 1;have f2:=g3.free 2;have f3:=g3.free 3;have f4:=g3.free 4;have f5:=g3.free 5;have f6:=g3.free 6
 obtain⟨w4,e4,h4,k4⟩:=g3.put t
 have E4:=aA e4;have H4:=aA h4;have K4:=aA (aC (unhide K3) k4 Yo (unhide K3).size)
 clear h3 k3 g3 et e4 h4 k4
 go_wp2_with fail
 rw[←unhide E4]
 have p0:=(unhide H4).c0;have p1:=(unhide H4).c1;have p2:=(unhide H4).c2;have p3:=(unhide H4).c3;have p4:=(unhide H4).c4;have p5:=(unhide H4).c5;have p6:=(unhide H4).c6
 refine bodyPost_ret (v:=stV t) (by simp[results,Tryz.results92,go_sem,p0,p1,p2,p3,p4,p5,p6]) rfl ⟨by rw[unhide ET],unhide K4⟩
set_option maxHeartbeats 400000 in
theorem aGS (s : St) (z r gate : Int) (w : World) (hs : s.Ok) (hz : R64 z) (hr : R64 r) (hg : R64 gate) :
  Calls Tryz.prog 91 #[stV s,.int .i64 z,.int .i64 r,.int .i64 gate] w λe w'=>e=.returned (.tuple #[stV (rT s z r gate),.bool (wE s z r gate)])∧Below w.heap.size w w':=by
 obtain⟨w2,e2,h2,g2,k2⟩:=aCU w s
 have OK:=aA hs;have RZ:=aA hz;have RR:=aA hr;have RG:=aA hg;have E2:=aA e2;have H2:=aA h2;have G2:=aA g2;have K2:=aA k2
 clear hs hz hr hg e2 h2 g2 k2
 go_enter Tryz.func91,Tryz.ntmps91
 go_wp2_with fail
 rw[←unhide E2]
 refine (aGb w.heap.size s z r gate _ (unhide OK) (unhide RZ) (unhide RR) (unhide RG) (unhide H2)).mono ?_
 rintro e w3 ⟨rfl,h3,k3⟩
 have g3:=(unhide G2).kept k3 Yo
 have K3:=aA (aC (unhide K2) k3 (Nat.le_refl _) (unhide K2).size)
 obtain⟨t,et⟩:∃t,t=rT s z r gate:=⟨_,rfl⟩
 obtain⟨tk,ek⟩:∃tk,tk=wE s z r gate:=⟨_,rfl⟩
 rw[←et] at h3
 rw[←ek]
 have ET:=aA et;have EK:=aA ek
 have c0:=h3.c0;have c1:=h3.c1;have c2:=h3.c2;have c3:=h3.c3;have c4:=h3.c4;have c5:=h3.c5;have c6:=h3.c6
 have b0:=g3.c0;have b1:=g3.c1;have b2:=g3.c2;have b3:=g3.c3;have b4:=g3.c4;have b5:=g3.c5;have b6:=g3.c6
 have f0:=g3.free 0;have f1:=g3.free 1;have f2:=g3.free 2;have f3:=g3.free 3;have f4:=g3.free 4;have f5:=g3.free 5;have f6:=g3.free 6
 obtain⟨w4,e4,h4,k4⟩:=g3.put t
 have E4:=aA e4;have H4:=aA h4;have K4:=aA (aC (unhide K3) k4 Yo (unhide K3).size)
 clear h3 k3 g3 et ek e4 h4 k4
 go_wp2_with fail
 rw[←unhide E4]
 have p0:=(unhide H4).c0;have p1:=(unhide H4).c1;have p2:=(unhide H4).c2;have p3:=(unhide H4).c3;have p4:=(unhide H4).c4;have p5:=(unhide H4).c5;have p6:=(unhide H4).c6
 refine bodyPost_ret (v:=.tuple #[stV t,.bool tk]) (by simp[results,Tryz.results91,go_sem,p0,p1,p2,p3,p4,p5,p6]) rfl ⟨by rw[unhide ET,unhide EK],unhide K4⟩
def TAt(w:World)(b:Nat)(t:Tn):Prop:=w.heap[b]?=some (.cells #[.int .i64 t.Dt,.int .i64 t.Q,.int .i64 t.R,.int .i64 t.G] 23 (0,0))
theorem TAt.c0{w:World}{b:Nat}{t:Tn}(h:TAt w b t):w.cell? ⟨b,0,none⟩=some (.int .i64 t.Dt):=by
 unfold TAt at h;unfold World.cell?;rw[h];rfl
theorem TAt.c1{w:World}{b:Nat}{t:Tn}(h:TAt w b t):w.cell? ⟨b,1,none⟩=some (.int .i64 t.Q):=by
 unfold TAt at h;unfold World.cell?;rw[h];rfl
theorem TAt.c2{w:World}{b:Nat}{t:Tn}(h:TAt w b t):w.cell? ⟨b,2,none⟩=some (.int .i64 t.R):=by
 unfold TAt at h;unfold World.cell?;rw[h];rfl
theorem TAt.c3{w:World}{b:Nat}{t:Tn}(h:TAt w b t):w.cell? ⟨b,3,none⟩=some (.int .i64 t.G):=by
 unfold TAt at h;unfold World.cell?;rw[h];rfl
theorem TAt.lt{w:World}{b:Nat}{t:Tn}(h:TAt w b t):b<w.heap.size:=lt_of_block h
theorem TAt.same{w w':World}{b:Nat}{t:Tn}(h:TAt w b t)(e:w'.heap[b]?=w.heap[b]?):TAt w' b t:=e.trans h
theorem TAt.below{w w':World}{b:Nat}{t:Tn}(h:TAt w b t)(k:Below w.heap.size w w'):TAt w' b t:=h.same (k.block b h.lt)
theorem TAt.kept{z:Nat}{w w':World}{b:Nat}{t:Tn}(h:TAt w b t)(k:Kept z w w')(hz:b≠z):TAt w' b t:=h.same (k.block b h.lt hz)
theorem TAt.new(w:World)(t:Tn):TAt (w.alloc (.cells #[.int .i64 t.Dt,.int .i64 t.Q,.int .i64 t.R,.int .i64 t.G] 23)) w.heap.size t:=by
 unfold TAt
 show (w.heap.push _)[w.heap.size]?=_
 rw[Array.getElem?_push_size]
structure ST (bs bt:Nat) (s:St) (t:Tn) (w:World):Prop where
 st:SAt w bs s
 tn:TAt w bt t
theorem ST.below{bs bt:Nat}{s:St}{t:Tn}{w w':World}(h:ST bs bt s t w)(k:Below w.heap.size w w'):ST bs bt s t w':=⟨h.st.below k,h.tn.below k⟩
theorem ST.kept{z bs bt:Nat}{s:St}{t:Tn}{w w':World}(h:ST bs bt s t w)(k:Kept z w w')(n1:bs≠z)(n2:bt≠z):ST bs bt s t w':=⟨h.st.kept k n1,h.tn.kept k n2⟩
theorem ST.drew{bs bt:Nat}{s:St}{t:Tn}{w:World}(h:ST bs bt s t w):ST bs bt s t w.drew:=⟨h.st,h.tn⟩
theorem aHc (w : World) (s : St) (t : Tn) : ∃ w3, w3 = ((w.alloc (.cells #[.int .i64 s.X, .int .i64 s.V, .int .i64 s.P00, .int .i64 s.P01, .int .i64 s.P11, .bool s.B, .int .i64 s.M] 45)).alloc (.cells #[.int .i64 t.Dt, .int .i64 t.Q, .int .i64 t.R, .int .i64 t.G] 23)).alloc (.cells #[.int .i64 0, .int .i64 0, .int .i64 0, .int .i64 0, .int .i64 0, .bool false, .int .i64 0] 45) ∧
  ST w.heap.size (w.heap.size+1) s t w3∧SAt w3 (w.heap.size+1+1) St.nil∧Below w.heap.size w w3:=by
 obtain⟨w1,e1,h1,k1,z1⟩:=wV w s
 have h2:=TAt.new w1 t
 have k2:=bR w1 (.cells #[.int .i64 t.Dt,.int .i64 t.Q,.int .i64 t.R,.int .i64 t.G] 23)
 have z2:=dC w1 (.cells #[.int .i64 t.Dt,.int .i64 t.Q,.int .i64 t.R,.int .i64 t.G] 23)
 rw[z1] at h2 z2
 rw[←e1]
 generalize w1.alloc (.cells #[.int .i64 t.Dt,.int .i64 t.Q,.int .i64 t.R,.int .i64 t.G] 23)=w2 at*
 obtain⟨w3,e3,h3,k3,z3⟩:=wV w2 St.nil
 rw[z2] at h3
 have kk:=k1.trans (k2.mono k1.size)
 exact⟨w3,e3,⟨(h1.below k2).below k3,h2.below k3⟩,h3,kk.trans (k3.mono kk.size)⟩
set_option maxHeartbeats 1000000 in
theorem aMh (s : St) (t : Tn) (z : Int) (w : World) (hs : s.Ok) (ht : t.Ok) (hz : R64 z) :
  Calls Tryz.prog 76 #[stV s,tnV t,.int .i64 z] w λe w'=>e=.returned (.tuple #[stV (wQ s t z),.bool (aGI s t z)])∧Below w.heap.size w w':=by
 obtain⟨w1,e1,d1,g1,k1⟩:=aHc w s t
 have OK:=aA hs;have OT:=aA ht;have RZ:=aA hz;have E1:=aA e1;have G1:=aA g1;have K1:=aA k1
 have hS1:ST w.heap.size (w.heap.size+1) s t w1.drew:=d1.drew
 clear hs ht hz e1 d1 g1 k1
 go_enter Tryz.func76,Tryz.ntmps76
 go_wp2_with fail
 rw[←unhide E1]
 refine fF (S:=ST w.heap.size (w.heap.size+1) s t) [(0,false),(1,false),(2,false),(3,false),(4,false),(6,false),(7,false),(8,false),(9,false),(10,false),(5,true),(11,true),(12,false),(13,false),(14,true),(15,true)] [] (by kernel_rfl) (by kernel_rfl) ?_
 iterate 10
  refine bO (v:=?_) rfl (λ_ _ _ h=>h) (by rfl) hS1 ?_ ?_
  rotate_left 1
  ·intro wx hwx
   have q0:=hwx.tn.c0;have q1:=hwx.tn.c1;have q2:=hwx.tn.c2;have q3:=hwx.tn.c3
   have c0:=hwx.st.c0;have c1:=hwx.st.c1;have c2:=hwx.st.c2;have c3:=hwx.st.c3;have c4:=hwx.st.c4;have c5:=hwx.st.c5;have c6:=hwx.st.c6
   clear hwx
   go_simp<;>exact rfl
  go_frame
 refine bU rfl (λK hK=>?_)
 go_simp
 refine (aFD s t.Dt t.Q _ (unhide OK) (unhide OT).Dt (unhide OT).Q).mono ?_
 rintro e w2 ⟨rfl,k⟩
 have hS2:=hS1.below k
 refine hK _ _ (λ_=>hS2) ?_
 have G2:=aA (SAt.below (w:=w1.drew) (unhide G1) k);have K2:=aA ((aQ (unhide K1)).trans (k.mono (unhide K1).size))
 clear hK K hS1 k G1 K1
 refine bU rfl (λK hK=>?_)
 go_simp
 refine (aGS (uK s t.Dt t.Q) z t.R t.G _ (aEi (unhide OK) _ _) (unhide RZ) (unhide OT).R (unhide OT).G).mono ?_
 rintro e w3 ⟨rfl,k⟩
 have hS3:=hS2.below k
 refine hK _ _ (λ_=>hS3) ?_
 have G3:=aA ((unhide G2).below k);have K3:=aA ((unhide K2).trans (k.mono (unhide K2).size))
 clear hK K hS2 k G2 K2
 rw[show rT (uK s t.Dt t.Q) z t.R t.G=wQ s t z from rfl,show wE (uK s t.Dt t.Q) z t.R t.G=aGI s t z from rfl]
 obtain⟨p,ep⟩:∃p,p=wQ s t z:=⟨_,rfl⟩
 obtain⟨tk,ek⟩:∃tk,tk=aGI s t z:=⟨_,rfl⟩
 rw[←ep, ←ek]
 have EP:=aA ep;have EK:=aA ek
 clear ep ek
 iterate 2
  refine bO (v:=?_) rfl (λ_ _ _ h=>h) (by rfl) hS3 ?_ ?_
  rotate_left 1
  ·intro wx hwx
   clear hwx
   go_simp<;>exact rfl
  go_frame
 have b0:=(unhide G3).c0;have b1:=(unhide G3).c1;have b2:=(unhide G3).c2;have b3:=(unhide G3).c3;have b4:=(unhide G3).c4;have b5:=(unhide G3).c5;have b6:=(unhide G3).c6
 have f0:=(unhide G3).free 0;have f1:=(unhide G3).free 1;have f2:=(unhide G3).free 2;have f3:=(unhide G3).free 3;have f4:=(unhide G3).free 4;have f5:=(unhide G3).free 5;have f6:=(unhide G3).free 6
 obtain⟨w4,e4,h4,k4⟩:=(unhide G3).put p
 refine bU rfl (λK hK=>?_)
 go_simp
 rw[←e4]
 have hS4:=hS3.kept k4 Yo Yo
 refine hK _ _ (λ_=>hS4) ?_
 have G4:=aA h4;have K4:=aA (aC (unhide K3) k4 Yo (unhide K3).size)
 clear hK K b0 b1 b2 b3 b4 b5 b6 f0 f1 f2 f3 f4 f5 f6 e4 h4 k4 hS3 G3 K3
 refine bU rfl (λK hK=>?_)
 go_simp
 refine hK _ _ (λ_=>hS4) ?_
 clear hK K hS4
 refine gV ?_
 go_wp2_with fail
 have p0:=(unhide G4).c0;have p1:=(unhide G4).c1;have p2:=(unhide G4).c2;have p3:=(unhide G4).c3;have p4:=(unhide G4).c4;have p5:=(unhide G4).c5;have p6:=(unhide G4).c6
 refine bodyPost_ret (v:=.tuple #[stV p,.bool tk]) (by simp[results,Tryz.results76,go_sem,p0,p1,p2,p3,p4,p5,p6]) rfl ⟨by rw[unhide EP,unhide EK],unhide K4⟩
end Go.Proofs.YtdhblehhgpdpdacGreat
