import Derived.Test.YthimcecbgpamdaaGreatDoorNear201
namespace Go.Proofs.YthimcecbgpamdaaGreatDoor
open Go.RowKit
theorem KT(x:Value)(w:World):(callFunc 126 #[x]).run Tryz.prog w=.ok (.enter 126 #[x]) w:=Yh
theorem WI(x:Value)(w:World):(callFunc 183 #[x]).run Tryz.prog w=.ok (.enter 183 #[x]) w:=Yh
variable{f:Operand->Value}{o:Oper}
theorem aII(x:Operand)(ho:o.op=.convert 3 83 x){v:Int}(hx:f x=.int .i64 v)(w:World):(execOp f o).run Tryz.prog w=.ok (.value (.int .u64 (v%18446744073709551616))) w:=by
 unfold execOp;rw[ho];dsimp only;rw[hx];go_simp
 rfl
variable{u:Int}
theorem aFm{s:Nat}(x y:Operand)(ho:o.op=.binOp .shr 83 x y 3)(hx:f x=.int .u64 u)(hy:f y=.int .i64 (s:Int))(hs:s<64)(w:World):(execOp f o).run Tryz.prog w=.ok (.value (.int .u64 (u/2^s))) w:=Yjq
theorem aIF(x:Operand)(ho:o.op=.convert 83 5 x)(hx:f x=.int .u64 u)(w:World):(execOp f o).run Tryz.prog w=.ok (.value (bV (u%256).toNat)) w:=by
 unfold execOp;rw[ho];dsimp only;rw[hx];go_simp
 show Value.int .u8 (u%256)=.int .u8 ((u%256).toNat:Int)
 rw[Int.toNat_of_nonneg Yo]
variable{x:Nat}
theorem aCQ(v:Int)(hx:x<8):(v%18446744073709551616/2^(56-8*x)%256).toNat=bt v 8 x:=by
 unfold bt
 congr 1
 match x,hx with
 |0,_=>show v%18446744073709551616/72057594037927936%256=v/72057594037927936%256;omega
 |1,_=>show v%18446744073709551616/281474976710656%256=v/281474976710656%256;omega
 |2,_=>show v%18446744073709551616/1099511627776%256=v/1099511627776%256;omega
 |3,_=>show v%18446744073709551616/4294967296%256=v/4294967296%256;omega
 |4,_=>show v%18446744073709551616/16777216%256=v/16777216%256;omega
 |5,_=>show v%18446744073709551616/65536%256=v/65536%256;omega
 |6,_=>show v%18446744073709551616/256%256=v/256%256;omega
 |7,_=>show v%18446744073709551616/1%256=v/1%256;omega
variable{Q:Exit->Act->World->Prop}
theorem aJU(w:World){a:Act}{K:Act->World->Prop}(x:Operand)(ho:o.op=.buildSlice 65 1 #[(0,x)]){g:Nat}(hx:a.eval x=bV g)(h:∀w',Vh 5 w' w.heap.size 1 1 (λ_=>bV g)->Below w.heap.size w w'->w'.heap.size=w.heap.size+1->K (a.put o.dst (.slice (some ⟨w.heap.size,0,none⟩) 1 1)) w'):WpI Tryz.prog o a w K Q:=by
 have hh:=h (w.alloc (.cells #[bV g] 5)) (Vh.of_row (λ_=>bV g) 1 Yc (by show (w.heap.push _)[w.heap.size]?=_;rw[Array.getElem?_push_size];rfl)) (bK _ _) (dG _ _);have e:(execOp a.eval o).run Tryz.prog w=.ok (.value (.slice (some ⟨w.heap.size,0,none⟩) 1 1)) (w.alloc (.cells #[bV g] 5)):=by
  generalize a.eval=f at hx;unfold bV at hx ⊢;unfold execOp;rw[ho];simp only[List.map_toArray,List.map_cons,List.map_nil];rw[hx];go_simp
 refine⟨?_⟩;unfold Oper.wp;rw[e];exact hh
theorem aHk{ax:Nat->St}{r:Rl}{i:Nat}(hx:x<8):rowV (bF (vT ax r)) (8*i+x)++rowV (λ_=>bV (bt (gL (qR ax r) i) 8 x)) 1=rowV (bF (vT ax r)) (8*i+(x+1)):=by
 rw[nH];refine jF (λj hj=>?_);by_cases c:j<8*i+x
 .rw[if_pos c]
 .rw[if_neg c];show bV (bt (gL (qR ax r) i) 8 x)=bV (bt ((qR ax r).getD (j/8) 0) 8 (j%8))
  rw[show j/8=i by omega,show j%8=x by omega];rfl
set_option maxHeartbeats 2000000 in
theorem WG(ax:Nat->St)(r:Rl)(vo:Option Addr)(vc:Nat)(w:World)(hsr:Sr w vo 24 vc (iF (gL (qR ax r)))):Calls Tryz.prog 126 #[.slice vo 24 vc] w λe w'=>e=.returned (.int .i64 (IZ ax r))/\Below w.heap.size w w':=by
 obtain⟨y,rfl,hy⟩:∃y,vo=some y/\∀i,i<24->w.cell? (y.add i)=some (.int .i64 (gL (qR ax r) i)):=by
  rcases hsr with ⟨_,e,_⟩|⟨y,e,hc⟩
  .exact absurd e Yc
  .exact⟨y,e,λi hi=>hc i hi⟩
 refine bB Tryz.func126 rfl 28 rfl Yd (λA hs hd hb=>?_);have b0:=hb 0 _ rfl;clear hb;refine aD (aG ?_);refine Yx ?_;refine aC<|aD<|Yx ?_;refine aC<|aH<|aD ?_;iterate 3 refine Yx ?_
 refine aC<|aM<|cO (λq A W=>∃(i:Nat) (v:Value),i<=24/\24-i<=q/\A.tmps.size=28/\A.defers=[]/\A.eval (.tmp 7)=.slice (some y) 24 vc/\A.eval (.tmp 8)=.int .i64 ((24:Nat):Int)/\A.eval (.tmp 9)=.int .i64 (i:Int)/\A.eval (.tmp 3)=v/\W.ownsRow w.heap.size 5 1 v (8*i) (rowV (bF (vT ax r)) (8*i))/\Below w.heap.size w W) 24 ⟨0,_,Yo,Yo,YA,YB,Yf,Yf,Yf,Yf,World.ownsRow_nil _ _ _ _,Below.refl _ _⟩ (λq B W hI2=>?_);clear b0 hs hd;obtain⟨i,v,hi,hr2,hs,hd,b7,b8,b9,b3,ov,kB⟩:=hI2;have hWs:=kB.size;by_cases hin:i<24
 .refine aD (aG ?_);refine Yx ?_;refine aC<|aH (aT Yf (aS ?_));refine aH (aM ?_);refine aD<|Yq (fQ _ _ rfl (a:=y) (n:=24) (cap:=vc) Yb Yb (i:=i) rfl hin _) ?_;refine Yq (fT _ rfl Yf (aU (hy i hin) kB)) ?_;refine Yx ?_;refine aC<|aD<|Yx ?_;refine aC<|aM<|cO (λq A W=>∃(x:Nat) (v:Value),x<=8/\8-x<=q/\A.tmps.size=28/\A.defers=[]/\A.eval (.tmp 7)=.slice (some y) 24 vc/\A.eval (.tmp 8)=.int .i64 ((24:Nat):Int)/\A.eval (.tmp 9)=.int .i64 (i:Int)/\A.eval (.tmp 5)=.int .i64 (gL (qR ax r) i)/\A.eval (.tmp 6)=.int .i64 (56-8*(x:Int))/\A.eval (.tmp 3)=v/\W.ownsRow w.heap.size 5 1 v (8*i+x) (rowV (bF (vT ax r)) (8*i+x))/\Below w.heap.size w W) 8 ⟨0,v,Yo,Yo,YA,YB,Yb,Yb,Yb,Yf,Yf,Yb,ov,kB⟩ (λq3 B3 W3 hI3=>?_);clear b3 b7 b8 b9 hs hd ov;obtain⟨x,v3,hx,hr3,hs,hd,b7,b8,b9,b5,b6,b3,ov,kB3⟩:=hI3;have hWs3:=kB3.size;by_cases hin3:x<8
  .refine aH<|aD (aG ?_);refine Yx ?_;refine Yq (fU (b:=true) _ _ rfl Yf (aI _ _) (Xt Yo) _) ?_;refine aC<|aT Yf (aS ?_);refine aH (aM ?_);refine aJ ?_;iterate 2 refine Yx ?_
   refine Yq (aII _ rfl Yf _) ?_;refine Yx ?_;refine Yq (aFm (s:=56-8*x) _ _ rfl Yf ((Ye rfl).trans (by rw[show (56-8*(x:Int))=((56-8*x:Nat):Int) by omega])) Yo _) ?_;refine Yq ((aIF _ rfl Yf _).trans (by rw[aCQ _ hin3])) ?_;refine bJ rfl Yw (λK hK=>aJU _ _ rfl Yf (λw21 m21 k21 z21=>hK _ _ ?_));have ov21:=bM ov k21;refine bJ rfl Yw (λK hK=>?_);refine⟨VM _ _ _ rfl w.heap.size Yo v3 _ _ Yf ov21 _ 1 1 _ Yf (Or.inr ⟨_,rfl,λi hi=>by rw[add_at,Nat.zero_add];exact m21.cell hi⟩) (λi _=>rfl) Yo ?_⟩;intro v22 w22 ov22 k22;have n22:=k22.size;rw[aHk hin3] at ov22;refine hK _ _ ?_;clear hK K;refine Yx ?_;refine fG<|aJ<|Yx ?_;refine Yq (A8 _ _ rfl Yf (aI _ _) Yo Yo _) ?_;refine Yx ?_;exact bD ⟨8-(x+1),Yo,x+1,_,Yo,Yo,YA,YB,Yb,Yb,Yb,Yb,(Ye rfl).trans (by congr 1;omega),Yf,ov22,(kB3.trans (k21.mono Yo)).trans (k22.mono Yo)⟩
  .refine aH<|aD (aG ?_);refine Yx ?_;refine Yq (fU (b:=false) _ _ rfl Yf (aI _ _) (Xf Yo) _) ?_;obtain rfl:x=8:=Yo;refine aC<|aQ Yf (bY (aCB ?_));refine aJ ?_;iterate 2 refine Yx ?_
   exact bD ⟨24-(i+1),Yo,i+1,_,Yo,Yo,YA,YB,Yb,Yb,(Ye rfl).trans YC,Yb,ov,kB3⟩
 .refine aD (aG ?_);refine Yx ?_;obtain rfl:i=24:=Yo;refine aC<|aH (aQ Yf (bY (eY ?_)));obtain⟨ta,tc,rfl,htc⟩:=dY ov;refine aD<|Yx ?_;refine bJ rfl Yw (λK hK=>aX _ 183 _ _ rfl Yf (WI _ _) (MP ta (8*24) tc (vT ax r) _ (aIo ax r) Yc (W9 ov)) ?_);rintro e w11 ⟨rfl,k11⟩;have n11:=k11.size;refine⟨_,rfl,hK _ _ ?_⟩;refine Yx ?_;refine aC ?_;exact aN (aK YB (bL rfl Yf) ⟨rfl,kB.trans (k11.mono Yo)⟩)
end Go.Proofs.YthimcecbgpamdaaGreatDoor
