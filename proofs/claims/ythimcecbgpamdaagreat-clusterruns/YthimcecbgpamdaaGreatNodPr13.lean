import Derived.Test.YthimcecbgpamdaaGreatNear169
namespace Go.Proofs.YthimcecbgpamdaaGreat
open Go.RowKit
theorem PP(x:Value)(w:World):(callFunc 66 #[x]).run Tryz.prog w=.ok (.enter 66 #[x]) w:=Yh
theorem aBB(x:Value)(w:World):(callFunc 98 #[x]).run Tryz.prog w=.ok (.enter 98 #[x]) w:=Yh
variable{o:Oper}{f:Operand->Value}
theorem aKO(x:Operand)(ho:o.op=.convert 3 138 x){v:Int}(hx:f x=.int .i64 v)(w:World):(execOp f o).run Tryz.prog w=.ok (.value (.int .u64 (v%18446744073709551616))) w:=by
 unfold execOp;rw[ho];dsimp only;rw[hx];go_simp
 rfl
variable{u:Int}
theorem aFp{s:Nat}(x y:Operand)(ho:o.op=.binOp .shr 138 x y 3)(hx:f x=.int .u64 u)(hy:f y=.int .i64 (s:Int))(hs:s<64)(w:World):(execOp f o).run Tryz.prog w=.ok (.value (.int .u64 (u/2^s))) w:=Yjq
theorem aKb(x:Operand)(ho:o.op=.convert 138 5 x)(hx:f x=.int .u64 u)(w:World):(execOp f o).run Tryz.prog w=.ok (.value (bV (u%256).toNat)) w:=by
 unfold execOp;rw[ho];dsimp only;rw[hx];go_simp
 show Value.int .u8 (u%256)=.int .u8 ((u%256).toNat:Int)
 rw[Int.toNat_of_nonneg Yo]
variable{x:Nat}
theorem aGp(v:Int)(hx:x<8):(v%18446744073709551616/2^(56-8*x)%256).toNat=bt v 8 x:=by
 unfold bt
 congr 1
 match x,hx with
 |0,_=>show v%18446744073709551616/72057594037927936%256=v/72057594037927936%256;omega
 |1,_=>show v%18446744073709551616/281474976710656%256=v/281474976710656%256;omega
 |2,_=>show v%18446744073709551616/1099511627776%256=v/1099511627776%256;omega
 |3,_=>show v%18446744073709551616/4294967296%256=v/4294967296%256;omega
 |4,_=>show v%18446744073709551616/16777216%256=v/16777216%256;omega
 |5,_=>show v%18446744073709551616/65536%256=v/65536%256;omega
 |6,_=>show v%18446744073709551616/256%256=v/256%256;omega
 |7,_=>show v%18446744073709551616/1%256=v/1%256;omega
variable{Q:Exit->Act->World->Prop}
theorem aKL(w:World){a:Act}{K:Act->World->Prop}(x:Operand)(ho:o.op=.buildSlice 76 1 #[(0,x)]){g:Nat}(hx:a.eval x=bV g)(h:∀w',Vh 5 w' w.heap.size 1 1 (λ_=>bV g)->Below w.heap.size w w'->w'.heap.size=w.heap.size+1->K (a.put o.dst (.slice (some ⟨w.heap.size,0,none⟩) 1 1)) w'):WpI Tryz.prog o a w K Q:=by
 have hh:=h (w.alloc (.cells #[bV g] 5)) (Vh.of_row (λ_=>bV g) 1 Yc (by show (w.heap.push _)[w.heap.size]?=_;rw[Array.getElem?_push_size];rfl)) (bU _ _) (dK _ _);have e:(execOp a.eval o).run Tryz.prog w=.ok (.value (.slice (some ⟨w.heap.size,0,none⟩) 1 1)) (w.alloc (.cells #[bV g] 5)):=by
  generalize a.eval=f at hx;unfold bV at hx ⊢;unfold execOp;rw[ho];simp only[List.map_toArray,List.map_cons,List.map_nil];rw[hx];go_simp
 refine⟨?_⟩;unfold Oper.wp;rw[e];exact hh
theorem aKm{ax:Nat->St}{r:Rl}{i:Nat}(hx:x<8):rowV (bF (wC ax r)) (8*i+x)++rowV (λ_=>bV (bt (gL (nS ax r) i) 8 x)) 1=rowV (bF (wC ax r)) (8*i+(x+1)):=by
 rw[kZ];refine iC (λj hj=>?_);by_cases c:j<8*i+x
 .rw[if_pos c]
 .rw[if_neg c];show bV (bt (gL (nS ax r) i) 8 x)=bV (bt ((nS ax r).getD (j/8) 0) 8 (j%8))
  rw[show j/8=i by omega,show j%8=x by omega];rfl
set_option maxHeartbeats 2000000 in
theorem aBZ(ax:Nat->St)(r:Rl)(vo:Option Addr)(vc:Nat)(w:World)(hsr:Sr w vo 24 vc (iF (gL (nS ax r)))):Calls Tryz.prog 66 #[.slice vo 24 vc] w λe w'=>e=.returned (.int .i64 (dgN ax r))/\Below w.heap.size w w':=by
 obtain⟨y,rfl,hy⟩:∃y,vo=some y/\∀i,i<24->w.cell? (y.add i)=some (.int .i64 (gL (nS ax r) i)):=by
  rcases hsr with ⟨_,e,_⟩|⟨y,e,hc⟩
  .exact absurd e Yc
  .exact⟨y,e,λi hi=>hc i hi⟩
 refine bO Tryz.func66 rfl 28 rfl Yd (λA hs hd hb=>?_);have b0:=hb 0 _ rfl;clear hb;refine aD (aG ?_);refine Yx ?_;refine aC<|aD<|Yx ?_;refine aC<|aH<|aD ?_;iterate 3 refine Yx ?_
 refine aC<|aK<|bW (λq A W=>∃(i:Nat) (v:Value),i<=24/\24-i<=q/\A.tmps.size=28/\A.defers=[]/\A.eval (.tmp 7)=.slice (some y) 24 vc/\A.eval (.tmp 8)=.int .i64 ((24:Nat):Int)/\A.eval (.tmp 9)=.int .i64 (i:Int)/\A.eval (.tmp 3)=v/\W.ownsRow w.heap.size 5 1 v (8*i) (rowV (bF (wC ax r)) (8*i))/\Below w.heap.size w W) 24 ⟨0,_,Yo,Yo,YA,YB,Yf,Yf,Yf,Yf,World.ownsRow_nil _ _ _ _,Below.refl _ _⟩ (λq B W hI2=>?_);clear b0 hs hd;obtain⟨i,v,hi,hr2,hs,hd,b7,b8,b9,b3,ov,kB⟩:=hI2;have hWs:=kB.size;by_cases hin:i<24
 .refine aD (aG ?_);refine Yx ?_;refine aC<|aH (bG Yf (aS ?_));refine aH (aK ?_);refine aD<|Yq (cK _ _ rfl (a:=y) (n:=24) (cap:=vc) Yb Yb (i:=i) rfl hin _) ?_;refine Yq (cO _ rfl Yf (aM (hy i hin) kB)) ?_;refine Yx ?_;refine aC<|aD<|Yx ?_;refine aC<|aK<|bW (λq A W=>∃(x:Nat) (v:Value),x<=8/\8-x<=q/\A.tmps.size=28/\A.defers=[]/\A.eval (.tmp 7)=.slice (some y) 24 vc/\A.eval (.tmp 8)=.int .i64 ((24:Nat):Int)/\A.eval (.tmp 9)=.int .i64 (i:Int)/\A.eval (.tmp 5)=.int .i64 (gL (nS ax r) i)/\A.eval (.tmp 6)=.int .i64 (56-8*(x:Int))/\A.eval (.tmp 3)=v/\W.ownsRow w.heap.size 5 1 v (8*i+x) (rowV (bF (wC ax r)) (8*i+x))/\Below w.heap.size w W) 8 ⟨0,v,Yo,Yo,YA,YB,Yb,Yb,Yb,Yf,Yf,Yb,ov,kB⟩ (λq3 B3 W3 hI3=>?_);clear b3 b7 b8 b9 hs hd ov;obtain⟨x,v3,hx,hr3,hs,hd,b7,b8,b9,b5,b6,b3,ov,kB3⟩:=hI3;have hWs3:=kB3.size;by_cases hin3:x<8
  .refine aH<|aD (aG ?_);refine Yx ?_;refine Yq (iT (b:=true) _ _ rfl Yf (aJ _ _) (Xt Yo) _) ?_;refine aC<|bG Yf (aS ?_);refine aH (aK ?_);refine aI ?_;iterate 2 refine Yx ?_
   refine Yq (aKO _ rfl Yf _) ?_;refine Yx ?_;refine Yq (aFp (s:=56-8*x) _ _ rfl Yf ((Ye rfl).trans (by rw[show (56-8*(x:Int))=((56-8*x:Nat):Int) by omega])) Yo _) ?_;refine Yq ((aKb _ rfl Yf _).trans (by rw[aGp _ hin3])) ?_;refine bI rfl Yw (λK hK=>aKL _ _ rfl Yf (λw21 m21 k21 z21=>hK _ _ ?_));have ov21:=bK ov k21;refine bI rfl Yw (λK hK=>?_);refine⟨LH _ _ _ rfl w.heap.size Yo v3 _ _ Yf ov21 _ 1 1 _ Yf (Or.inr ⟨_,rfl,λi hi=>by rw[add_at,Nat.zero_add];exact m21.cell hi⟩) (λi _=>rfl) Yo ?_⟩;intro v22 w22 ov22 k22;have n22:=k22.size;rw[aKm hin3] at ov22;refine hK _ _ ?_;clear hK K;refine Yx ?_;refine fB<|aI<|Yx ?_;refine Yq (sJ _ _ rfl Yf (aJ _ _) Yo Yo _) ?_;refine Yx ?_;exact aQ ⟨8-(x+1),Yo,x+1,_,Yo,Yo,YA,YB,Yb,Yb,Yb,Yb,(Ye rfl).trans (by congr 1;omega),Yf,ov22,(kB3.trans (k21.mono Yo)).trans (k22.mono Yo)⟩
  .refine aH<|aD (aG ?_);refine Yx ?_;refine Yq (iT (b:=false) _ _ rfl Yf (aJ _ _) (Xf Yo) _) ?_;obtain rfl:x=8:=Yo;refine aC<|bH Yf (bP (aEw ?_));refine aI ?_;iterate 2 refine Yx ?_
   exact aQ ⟨24-(i+1),Yo,i+1,_,Yo,Yo,YA,YB,Yb,Yb,(Ye rfl).trans YC,Yb,ov,kB3⟩
 .refine aD (aG ?_);refine Yx ?_;obtain rfl:i=24:=Yo;refine aC<|aH (bH Yf (bP (dM ?_)));obtain⟨ta,tc,rfl,htc⟩:=dS ov;refine aD<|Yx ?_;refine bI rfl Yw (λK hK=>bQ _ 98 _ _ rfl Yf (aBB _ _) (RF ta (8*24) tc (wC ax r) _ (ZT ax r) Yc (tH ov)) ?_);rintro e w11 ⟨rfl,k11⟩;have n11:=k11.size;refine⟨_,rfl,hK _ _ ?_⟩;refine Yx ?_;refine aC ?_;exact aW (aN YB (dW rfl Yf) ⟨rfl,kB.trans (k11.mono Yo)⟩)
end Go.Proofs.YthimcecbgpamdaaGreat
