import Derived.Test.YthimcecbgpamdaaGreatDoorNear166
set_option maxHeartbeats 8000000
namespace Go.Proofs.YthimcecbgpamdaaGreatDoor
open Go.RowKit
section
variable {n:Nd} {l:List Ms} {v:Value} {i x:Nat} {u:Nat->Int} {a:Nat->St}
variable{g:Nat->Nat->Int}
theorem aJB(hx:x<3):∀j,j<74->eQ (ndF (NA n g (yV n l x) a) v) (0+67+x*1) (.int .i64 (pJ (jI n.rl.I (λs=>decG n l s x) 4))) j=ndF (NA n g (yV n l (x+1)) a) v j:=by
 rw[<-aJC];exact aFP _ _ _ x hx
theorem aJp(hx:x<3):∀j,j<74->stP (ndF (NA n g u (J2 n l x)) v) (0+6+x*7) 7 (dK (decA n l x)) j=ndF (NA n g u (J2 n l (x+1))) v j:=by
 rw[<-aGO];exact BO _ _ _ x hx
end
abbrev dcF(n:Nd)(l:List Ms)(I:Nat):Nd:={ n with ag:=decG n l,us:=decU n l,ax:=decA n l,dg:=decD n l,he:=λs=>if s=I then decD n l else n.he s }
def SAt(w:World)(b:Nat)(s:St):Prop:=w.heap[b]?=some (.cells #[.int .i64 s.X,.int .i64 s.V,.int .i64 s.P00,.int .i64 s.P01,.int .i64 s.P11,.bool s.B,.int .i64 s.M] 31 (0,0))
variable{b:Nat}{s:St}{w:World}
theorem SAt.c0(h:SAt w b s):w.cell? ⟨b,0,none⟩=some (.int .i64 s.X):=by
 unfold SAt at h;unfold World.cell?;rw[h];rfl
theorem SAt.c1(h:SAt w b s):w.cell? ⟨b,1,none⟩=some (.int .i64 s.V):=by
 unfold SAt at h;unfold World.cell?;rw[h];rfl
theorem SAt.c2(h:SAt w b s):w.cell? ⟨b,2,none⟩=some (.int .i64 s.P00):=by
 unfold SAt at h;unfold World.cell?;rw[h];rfl
theorem SAt.c3(h:SAt w b s):w.cell? ⟨b,3,none⟩=some (.int .i64 s.P01):=by
 unfold SAt at h;unfold World.cell?;rw[h];rfl
theorem SAt.c4(h:SAt w b s):w.cell? ⟨b,4,none⟩=some (.int .i64 s.P11):=by
 unfold SAt at h;unfold World.cell?;rw[h];rfl
theorem SAt.c5(h:SAt w b s):w.cell? ⟨b,5,none⟩=some (.bool s.B):=by
 unfold SAt at h;unfold World.cell?;rw[h];rfl
theorem SAt.c6(h:SAt w b s):w.cell? ⟨b,6,none⟩=some (.int .i64 s.M):=by
 unfold SAt at h;unfold World.cell?;rw[h];rfl
theorem SAt.free(h:SAt w b s)(i:Nat):w.frozen? ⟨b,i,none⟩=false:=by
 unfold SAt at h;simp[World.frozen?,h]
theorem SAt.lt(h:SAt w b s):b<w.heap.size:=lt_of_block h
variable{w':World}
theorem SAt.same(h:SAt w b s)(e:w'.heap[b]?=w.heap[b]?):SAt w' b s:=e.trans h
theorem SAt.below(h:SAt w b s)(k:Below w.heap.size w w'):SAt w' b s:=h.same (k.block b h.lt)
variable{z:Nat}
theorem SAt.kept(h:SAt w b s)(k:Kept z w w')(hz:b≠z):SAt w' b s:=h.same (k.block b h.lt hz)
theorem SAt.drew(h:SAt w b s):SAt w.drew b s:=h
theorem SAt.drewN(h:SAt w b s)(k:Nat):SAt (w.drewN k) b s:=h
theorem SAt.s0(h:SAt w b s)(u:Int):SAt (w.setCell ⟨b,0,none⟩ (.int .i64 u)) b { s with X:=u }:=by
 unfold SAt at h ⊢;exact heap_setCell_same w b 0 _ _ (.int .i64 u) h
theorem SAt.s1(h:SAt w b s)(u:Int):SAt (w.setCell ⟨b,1,none⟩ (.int .i64 u)) b { s with V:=u }:=by
 unfold SAt at h ⊢;exact heap_setCell_same w b 1 _ _ (.int .i64 u) h
theorem SAt.s2(h:SAt w b s)(u:Int):SAt (w.setCell ⟨b,2,none⟩ (.int .i64 u)) b { s with P00:=u }:=by
 unfold SAt at h ⊢;exact heap_setCell_same w b 2 _ _ (.int .i64 u) h
theorem SAt.s3(h:SAt w b s)(u:Int):SAt (w.setCell ⟨b,3,none⟩ (.int .i64 u)) b { s with P01:=u }:=by
 unfold SAt at h ⊢;exact heap_setCell_same w b 3 _ _ (.int .i64 u) h
theorem SAt.s4(h:SAt w b s)(u:Int):SAt (w.setCell ⟨b,4,none⟩ (.int .i64 u)) b { s with P11:=u }:=by
 unfold SAt at h ⊢;exact heap_setCell_same w b 4 _ _ (.int .i64 u) h
theorem SAt.s5(h:SAt w b s)(u:Bool):SAt (w.setCell ⟨b,5,none⟩ (.bool u)) b { s with B:=u }:=by
 unfold SAt at h ⊢;exact heap_setCell_same w b 5 _ _ (.bool u) h
theorem SAt.s6(h:SAt w b s)(u:Int):SAt (w.setCell ⟨b,6,none⟩ (.int .i64 u)) b { s with M:=u }:=by
 unfold SAt at h ⊢;exact heap_setCell_same w b 6 _ _ (.int .i64 u) h
theorem SAt.new(w:World)(s:St):SAt (w.alloc (.cells #[.int .i64 s.X,.int .i64 s.V,.int .i64 s.P00,.int .i64 s.P01,.int .i64 s.P11,.bool s.B,.int .i64 s.M] 31)) w.heap.size s:=by
 unfold SAt;show (w.heap.push _)[w.heap.size]?=_
 rw[Array.getElem?_push_size]
theorem SAt.put(h:SAt w b s)(t:St):∃w',w'=(((((((w.setCell ⟨b,0,none⟩ (.int .i64 t.X)).setCell ⟨b,1,none⟩ (.int .i64 t.V)).setCell ⟨b,2,none⟩ (.int .i64 t.P00)).setCell ⟨b,3,none⟩ (.int .i64 t.P01)).setCell ⟨b,4,none⟩ (.int .i64 t.P11)).setCell ⟨b,5,none⟩ (.bool t.B)).setCell ⟨b,6,none⟩ (.int .i64 t.M))/\SAt w' b t/\Kept b w w':=by
 refine⟨_,rfl,?_,?_⟩
 .exact (((((((h.s0 t.X).s1 t.V).s2 t.P00).s3 t.P01).s4 t.P11).s5 t.B).s6 t.M)
 .exact (((((((bI w b 0 _).trans (bI _ b 1 _) (Or.inl rfl)).trans (bI _ b 2 _) (Or.inl rfl)).trans (bI _ b 3 _) (Or.inl rfl)).trans (bI _ b 4 _) (Or.inl rfl)).trans (bI _ b 5 _) (Or.inl rfl)).trans (bI _ b 6 _) (Or.inl rfl))
abbrev EL(s:St):Value:=.agg #[.int .i64 s.X,.int .i64 s.V,.int .i64 s.P00,.int .i64 s.P01,.int .i64 s.P11,.bool s.B,.int .i64 s.M]
abbrev tnV(t:Tn):Value:=.agg #[.int .i64 t.Dt,.int .i64 t.Q,.int .i64 t.R,.int .i64 t.G]
abbrev vK(b:Nat):Value:=.agg #[.pointer (some ⟨b,0,none⟩)]
def HbAt(w:World)(bh b:Nat):Prop:=w.heap[bh]?=some (.cells #[.pointer (some ⟨b,0,none⟩)] 263 (0,0))
variable{bh:Nat}
theorem HbAt.c0(h:HbAt w bh b):w.cell? ⟨bh,0,none⟩=some (.pointer (some ⟨b,0,none⟩)):=by
 unfold HbAt at h;unfold World.cell?;rw[h];rfl
theorem HbAt.lt(h:HbAt w bh b):bh<w.heap.size:=lt_of_block h
theorem HbAt.same(h:HbAt w bh b)(e:w'.heap[bh]?=w.heap[bh]?):HbAt w' bh b:=e.trans h
theorem HbAt.kept(h:HbAt w bh b)(k:Kept z w w')(hz:bh≠z):HbAt w' bh b:=h.same (k.block bh h.lt hz)
theorem HbAt.new(w:World)(b:Nat):HbAt (w.alloc (.cells #[.pointer (some ⟨b,0,none⟩)] 263)) w.heap.size b:=by
 unfold HbAt;show (w.heap.push _)[w.heap.size]?=_
 rw[Array.getElem?_push_size]
theorem oC(h:SAt w b s):∃w1,w1=w.alloc (.cells #[.pointer (some ⟨b,0,none⟩)] 263)/\HbAt w1 w.heap.size b/\SAt w1 b s/\Kept b w w1/\w.heap.size≠b:=
 ⟨_,rfl,HbAt.new w b,h.below (bK w _),TP w _,by have:=h.lt;omega⟩
structure Hd (bh b bo:Nat) (s:St) (w:World):Prop where
 hand:HbAt w bh b
 old:SAt w bo s
 n1:bh≠b
 n2:bo≠b
theorem Hd.kept{bo:Nat}(h:Hd bh b bo s w)(k:Kept b w w'):Hd bh b bo s w':=⟨h.hand.kept k h.n1,h.old.kept k h.n2,h.n1,h.n2⟩
theorem Hd.drew{bo:Nat}(h:Hd bh b bo s w):Hd bh b bo s w.drew:=⟨h.hand,h.old,h.n1,h.n2⟩
def St.nil:St:=⟨0,0,0,0,0,false,0⟩
def St.bend(s:St)(x:Bool):St:={ s with B:=s.B||x }
def St.setX(s:St)(x:Int):St:={ s with X:=x }
def St.setV(s:St)(x:Int):St:={ s with V:=x }
def St.setP00(s:St)(x:Int):St:={ s with P00:=x }
def St.setP01(s:St)(x:Int):St:={ s with P01:=x }
def St.setP11(s:St)(x:Int):St:={ s with P11:=x }
def St.setM(s:St)(x:Int):St:={ s with M:=x }
theorem tC(h:SAt w b s):∃w2,w2=(w.alloc (.cells #[.pointer (some ⟨b,0,none⟩)] 263)).alloc (.cells #[.int .i64 s.X,.int .i64 s.V,.int .i64 s.P00,.int .i64 s.P01,.int .i64 s.P11,.bool s.B,.int .i64 s.M] 31)/\Hd w.heap.size b (w.heap.size+1) s w2/\SAt w2 b s/\Kept b w w2:=by
 obtain⟨w1,e1,a1,s1,k1,n1⟩:=oC h;have z1:w1.heap.size=w.heap.size+1:=by rw[e1];exact dG w _
 have h2:=SAt.new w1 s;have k2:=TP (z:=b) w1 (.cells #[.int .i64 s.X,.int .i64 s.V,.int .i64 s.P00,.int .i64 s.P01,.int .i64 s.P11,.bool s.B,.int .i64 s.M] 31);have k3:=bK w1 (.cells #[.int .i64 s.X,.int .i64 s.V,.int .i64 s.P00,.int .i64 s.P01,.int .i64 s.P11,.bool s.B,.int .i64 s.M] 31);rw[z1] at h2;have hl:=h.lt;refine⟨_,by rw[<-e1],⟨a1.same (k3.block _ a1.lt),h2,n1,Yo⟩,s1.below k3,k1.trans k2 (Or.inl rfl)⟩
theorem SAt.pX(h:SAt w b s)(u:Int):∃w',w'=w.setCell ⟨b,0,none⟩ (.int .i64 u)/\SAt w' b (s.setX u)/\Kept b w w':=⟨_,rfl,h.s0 u,bI w b 0 _⟩
theorem SAt.pV(h:SAt w b s)(u:Int):∃w',w'=w.setCell ⟨b,1,none⟩ (.int .i64 u)/\SAt w' b (s.setV u)/\Kept b w w':=⟨_,rfl,h.s1 u,bI w b 1 _⟩
theorem SAt.pP00(h:SAt w b s)(u:Int):∃w',w'=w.setCell ⟨b,2,none⟩ (.int .i64 u)/\SAt w' b (s.setP00 u)/\Kept b w w':=⟨_,rfl,h.s2 u,bI w b 2 _⟩
theorem SAt.pP01(h:SAt w b s)(u:Int):∃w',w'=w.setCell ⟨b,3,none⟩ (.int .i64 u)/\SAt w' b (s.setP01 u)/\Kept b w w':=⟨_,rfl,h.s3 u,bI w b 3 _⟩
theorem SAt.pP11(h:SAt w b s)(u:Int):∃w',w'=w.setCell ⟨b,4,none⟩ (.int .i64 u)/\SAt w' b (s.setP11 u)/\Kept b w w':=⟨_,rfl,h.s4 u,bI w b 4 _⟩
theorem SAt.pM(h:SAt w b s)(u:Int):∃w',w'=w.setCell ⟨b,6,none⟩ (.int .i64 u)/\SAt w' b (s.setM u)/\Kept b w w':=⟨_,rfl,h.s6 u,bI w b 6 _⟩
theorem aIc(a b:Int)(ha:R64 a)(hb:R64 b)(w:World):Calls Tryz.prog 277 #[.int .i64 a,.int .i64 b] w λe w'=>e=.returned (.tuple #[.int .i64 (dO (GM a b)),.bool (fP (GM a b))])/\w'=w:=by
 have Ha:=aB ha;have Hb:=aB hb;have p0:=(IM ha hb).1;have p1:=(IM ha hb).2;obtain⟨x0,x1⟩:=nV ha;obtain⟨y0,y1⟩:=nV hb;obtain⟨a1,a2⟩:=ha;obtain⟨b1,b2⟩:=hb;go_enter Tryz.func277,Tryz.ntmps277
 go_wp2_with fail
 refine (wH a (aA Ha) _).mono ?_;rintro e w1 ⟨rfl,rfl⟩;go_wp2_with fail
 refine (wH b (aA Hb) _).mono ?_;rintro e w2 ⟨rfl,rfl⟩;go_wp2_with fail
 refine (aAN (absZ a) (absZ b) x0 Yo y0 Yo _).mono ?_;rintro e w3 ⟨rfl,rfl⟩;go_wp2_with fail
 have hq:=aDS a b;generalize hn:(!decide (a<0)==decide (b<0))=n;rw[show negZ a b=n from hn] at hq;clear hn;generalize absZ a*absZ b=p at*;have HQ:=aB hq;clear hq;refine (aDD _ _).mono ?_;rintro e w4 ⟨rfl,rfl⟩;obtain⟨h0,h1⟩:=aDC n;generalize halfZ n=h at*;go_wp2_with (simp only[add64_0 (p%18446744073709551616) h Yo h0])
 .have ho:=aDU p h p0 h0 (by assumption);refine (FW n _).mono ?_;rintro e w5 ⟨rfl,rfl⟩;go_wp2_with fail
  go_ret2
  exact⟨by rw[aA HQ,(AP n _ Yo).1,(AP n _ Yo).2];rfl,rfl⟩
 .have hj:=aDT p h p0 h0 (by assumption);rw[hj.1];refine (pQ n _ Yo hj.2 _).mono ?_;rintro e w5 ⟨rfl,rfl⟩;clear hj;go_wp2_with fail
  go_ret2
  exact⟨by rw[aA HQ];rfl,rfl⟩
theorem xB(b:Nat)(s:St)(n:Int)(y:Bool)(w:World)(h:SAt w b s):Calls Tryz.prog 274 #[vK b,.int .i64 n,.bool y] w λe w'=>e=.returned (.int .i64 n)/\SAt w' b (s.bend y)/\Kept b w w':=by
 obtain⟨w1,e1,a1,s1,k1,n1⟩:=oC h;have q0:=a1.c0;have c5:=s1.c5;have f5:=s1.free 5;have H:=aB s1;have E1:=aB e1;have K1:=aB k1;clear h s1 a1 e1 k1 n1;have G:(∃x,x=s.B):=⟨_,rfl⟩;obtain⟨x,ex⟩:=G;rw[<-ex] at c5;have EX:=aB ex;clear ex
 cases x
 .go_enter Tryz.func274,Tryz.ntmps274
  go_wp2_with fail
  rw[<-aA E1]
  go_region
  go_wp2_with fail
  go_ret
  refine⟨rfl,?_,((aA K1).trans (mJ _) (Or.inl rfl)).trans (bI _ _ _ _) (Or.inl rfl)⟩;have:=(aA H).s5 (s.B||y);rw[<-aA EX] at this;unfold St.bend;rw[<-aA EX];exact this
 .go_enter Tryz.func274,Tryz.ntmps274
  go_wp2_with fail
  rw[<-aA E1]
  go_region
  go_wp2_with fail
  go_ret
  refine⟨rfl,?_,((aA K1).trans (mJ _) (Or.inl rfl)).trans (bI _ _ _ _) (Or.inl rfl)⟩;have:=(aA H).s5 (s.B||y);rw[<-aA EX] at this;unfold St.bend;rw[<-aA EX];exact this
theorem kP(b:Nat)(s:St)(a c:Int)(w:World)(ha:R64 a)(hc:R64 c)(h:SAt w b s):Calls Tryz.prog 248 #[vK b,.int .i64 a,.int .i64 c] w λe w'=>e=.returned (.int .i64 (lM a c))/\SAt w' b (s.bend (Y3 a c))/\Kept b w w':=by
 obtain⟨w1,e1,a1,s1,k1,n1⟩:=oC h;have HA:=aB ha;have HC:=aB hc;have H:=aB s1;have E1:=aB e1;have K1:=aB k1;have N1:=aB n1;have hS:(λu=>HbAt u w.heap.size b) w1.drew:=a1;clear ha hc h a1 e1 s1 k1 n1;go_enter Tryz.func248,Tryz.ntmps248
 go_wp2_with fail
 rw[<-aA E1];refine fD (S:=λu=>HbAt u w.heap.size b) [(0,false),(1,false),(2,false),(3,true),(4,false),(5,false),(6,true),(7,true)] [] Yl Yl ?_;iterate 3
  refine bH (v:=?_) rfl (λ_ _ _ h=>h) (by rfl) hS ?_ ?_
  rotate_left 1
  .intro wx hwx;have q0:=HbAt.c0 hwx;go_simp<;>exact rfl
  go_frame
 refine bO rfl (λK hK=>?_);go_simp
 refine (aGB a c (aA HA) (aA HC) _).mono ?_;rintro e w2 ⟨rfl,rfl⟩;refine hK _ _ (λ_=>hS) ?_;clear hK K;iterate 2
  refine bH (v:=?_) rfl (λ_ _ _ h=>h) (by rfl) hS ?_ ?_
  rotate_left 1
  .intro wx hwx;clear hwx;go_simp<;>exact rfl
  go_frame
 refine bO rfl (λK hK=>?_);go_simp
 refine (xB b s _ _ _ (SAt.drewN (aA H) _)).mono ?_;rintro e w3 ⟨rfl,h3,k3⟩;have hS3:=HbAt.kept hS k3 (aA N1);refine hK _ _ (λ_=>hS3) ?_;have H3:=aB h3;have K3:=aB (((aA K1).trans (gJ _ 1) (Or.inl rfl)).trans k3 (Or.inl rfl));clear h3 k3 hK K hS;refine bO rfl (λK hK=>?_);go_simp
 refine hK _ _ (λ_=>hS3) ?_;clear hK K hS3;refine gV ?_;go_wp2_with fail
 go_ret
 exact⟨rfl,aA H3,aA K3⟩
theorem rG(b:Nat)(s:St)(a c:Int)(w:World)(ha:R64 a)(hc:R64 c)(h:SAt w b s):Calls Tryz.prog 247 #[vK b,.int .i64 a,.int .i64 c] w λe w'=>e=.returned (.int .i64 (I5 a c))/\SAt w' b (s.bend (sbE a c))/\Kept b w w':=by
 obtain⟨w1,e1,a1,s1,k1,n1⟩:=oC h;have HA:=aB ha;have HC:=aB hc;have H:=aB s1;have E1:=aB e1;have K1:=aB k1;have N1:=aB n1;have hS:(λu=>HbAt u w.heap.size b) w1.drew:=a1;clear ha hc h a1 e1 s1 k1 n1;go_enter Tryz.func247,Tryz.ntmps247
 go_wp2_with fail
 rw[<-aA E1];refine fD (S:=λu=>HbAt u w.heap.size b) [(0,false),(1,false),(2,false),(3,true),(4,false),(5,false),(6,true),(7,true)] [] Yl Yl ?_;iterate 3
  refine bH (v:=?_) rfl (λ_ _ _ h=>h) (by rfl) hS ?_ ?_
  rotate_left 1
  .intro wx hwx;have q0:=HbAt.c0 hwx;go_simp<;>exact rfl
  go_frame
 refine bO rfl (λK hK=>?_);go_simp
 refine (aJb a c (aA HA) (aA HC) _).mono ?_;rintro e w2 ⟨rfl,rfl⟩;refine hK _ _ (λ_=>hS) ?_;clear hK K;iterate 2
  refine bH (v:=?_) rfl (λ_ _ _ h=>h) (by rfl) hS ?_ ?_
  rotate_left 1
  .intro wx hwx;clear hwx;go_simp<;>exact rfl
  go_frame
 refine bO rfl (λK hK=>?_);go_simp
 refine (xB b s _ _ _ (SAt.drewN (aA H) _)).mono ?_;rintro e w3 ⟨rfl,h3,k3⟩;have hS3:=HbAt.kept hS k3 (aA N1);refine hK _ _ (λ_=>hS3) ?_;have H3:=aB h3;have K3:=aB (((aA K1).trans (gJ _ 1) (Or.inl rfl)).trans k3 (Or.inl rfl));clear h3 k3 hK K hS;refine bO rfl (λK hK=>?_);go_simp
 refine hK _ _ (λ_=>hS3) ?_;clear hK K hS3;refine gV ?_;go_wp2_with fail
 go_ret
 exact⟨rfl,aA H3,aA K3⟩
theorem iY(b:Nat)(s:St)(a c:Int)(w:World)(ha:R64 a)(hc:R64 c)(h:SAt w b s):Calls Tryz.prog 249 #[vK b,.int .i64 a,.int .i64 c] w λe w'=>e=.returned (.int .i64 (dQ a c))/\SAt w' b (s.bend (I1 a c))/\Kept b w w':=by
 obtain⟨w1,e1,a1,s1,k1,n1⟩:=oC h;have HA:=aB ha;have HC:=aB hc;have H:=aB s1;have E1:=aB e1;have K1:=aB k1;have N1:=aB n1;have hS:(λu=>HbAt u w.heap.size b) w1.drew:=a1;clear ha hc h a1 e1 s1 k1 n1;go_enter Tryz.func249,Tryz.ntmps249
 go_wp2_with fail
 rw[<-aA E1];refine fD (S:=λu=>HbAt u w.heap.size b) [(0,false),(1,false),(2,false),(3,true),(4,false),(5,false),(6,true),(7,true)] [] Yl Yl ?_;iterate 3
  refine bH (v:=?_) rfl (λ_ _ _ h=>h) (by rfl) hS ?_ ?_
  rotate_left 1
  .intro wx hwx;have q0:=HbAt.c0 hwx;go_simp<;>exact rfl
  go_frame
 refine bO rfl (λK hK=>?_);go_simp
 refine (aIc a c (aA HA) (aA HC) _).mono ?_;rintro e w2 ⟨rfl,rfl⟩;refine hK _ _ (λ_=>hS) ?_;clear hK K;iterate 2
  refine bH (v:=?_) rfl (λ_ _ _ h=>h) (by rfl) hS ?_ ?_
  rotate_left 1
  .intro wx hwx;clear hwx;go_simp<;>exact rfl
  go_frame
 refine bO rfl (λK hK=>?_);go_simp
 refine (xB b s _ _ _ (SAt.drewN (aA H) _)).mono ?_;rintro e w3 ⟨rfl,h3,k3⟩;have hS3:=HbAt.kept hS k3 (aA N1);refine hK _ _ (λ_=>hS3) ?_;have H3:=aB h3;have K3:=aB (((aA K1).trans (gJ _ 1) (Or.inl rfl)).trans k3 (Or.inl rfl));clear h3 k3 hK K hS;refine bO rfl (λK hK=>?_);go_simp
 refine hK _ _ (λ_=>hS3) ?_;clear hK K hS3;refine gV ?_;go_wp2_with fail
 go_ret
 exact⟨rfl,aA H3,aA K3⟩
theorem NN(b:Nat)(s:St)(a c:Int)(w:World)(ha:R64 a)(hc:R64 c)(h:SAt w b s):Calls Tryz.prog 278 #[vK b,.int .i64 a,.int .i64 c] w λe w'=>e=.returned (.int .i64 (fZ a c))/\SAt w' b (s.bend (FU a c))/\Kept b w w':=by
 obtain⟨w1,e1,a1,s1,k1,n1⟩:=oC h;have HA:=aB ha;have HC:=aB hc;have H:=aB s1;have E1:=aB e1;have K1:=aB k1;have N1:=aB n1;have hS:(λu=>HbAt u w.heap.size b) w1.drew:=a1;clear ha hc h a1 e1 s1 k1 n1;go_enter Tryz.func278,Tryz.ntmps278
 go_wp2_with fail
 rw[<-aA E1];refine fD (S:=λu=>HbAt u w.heap.size b) [(0,false),(1,false),(2,false),(3,true),(4,false),(5,false),(6,true),(7,true)] [] Yl Yl ?_;iterate 3
  refine bH (v:=?_) rfl (λ_ _ _ h=>h) (by rfl) hS ?_ ?_
  rotate_left 1
  .intro wx hwx;have q0:=HbAt.c0 hwx;go_simp<;>exact rfl
  go_frame
 refine bO rfl (λK hK=>?_);go_simp
 refine (aHn a c (aA HA) (aA HC) _).mono ?_;rintro e w2 ⟨k,rfl,rfl⟩;refine hK _ _ (λ_=>hS) ?_;clear hK K;iterate 2
  refine bH (v:=?_) rfl (λ_ _ _ h=>h) (by rfl) hS ?_ ?_
  rotate_left 1
  .intro wx hwx;clear hwx;go_simp<;>exact rfl
  go_frame
 refine bO rfl (λK hK=>?_);go_simp
 refine (xB b s _ _ _ (SAt.drewN (aA H) _)).mono ?_;rintro e w3 ⟨rfl,h3,k3⟩;have hS3:=HbAt.kept (w:=w1.drewN (1+k)) hS k3 (aA N1);refine hK _ _ (λ_=>hS3) ?_;have H3:=aB h3;have K3:=aB (((aA K1).trans (gJ _ (1+k)) (Or.inl rfl)).trans k3 (Or.inl rfl));clear h3 k3 hK K hS;refine bO rfl (λK hK=>?_);go_simp
 refine hK _ _ (λ_=>hS3) ?_;clear hK K hS3;refine gV ?_;go_wp2_with fail
 go_ret
 exact⟨rfl,aA H3,aA K3⟩
theorem NP(b:Nat)(s:St)(dt q:Int)(w:World)(hs:s.Ok)(hdt:R64 dt)(hq:R64 q)(h:SAt w b s):Calls Tryz.prog 222 #[vK b,.int .i64 dt,.int .i64 q] w λe w'=>e=.returned (.tuple #[])/\SAt w' b (uM s dt q)/\Kept b w w':=by
 obtain⟨w1,e1,d1,s1,k1⟩:=tC h;have OK:=aB hs;have E1:=aB e1;have D1:=aB d1;have S1:=aB s1;have K1:=aB k1;have Rdt:=aB hdt;have Rq:=aB hq;have a0:=h.c0;have a1:=h.c1;have a2:=h.c2;have a3:=h.c3;have a4:=h.c4;have a5:=h.c5;have a6:=h.c6;have lb:=h.lt;clear hs e1 d1 s1 k1 h hdt hq;go_enter Tryz.func222,Tryz.ntmps222
 go_wp2_with fail
 rw[<-aA E1];clear a0 a1 a2 a3 a4 a5 a6;refine (iY b _ s.P01 dt _ (aA OK).P01 (aA Rdt) (aA S1)).mono ?_;rintro e w2 ⟨rfl,h,k⟩;have D2:=aB ((aA D1).kept k);clear D1;have S2:=aB h;have K2:=aB ((aA K1).trans k (Or.inl rfl));clear h k S1 K1;have q0:=(aA D2).hand.c0;have c4:=(aA D2).old.c4;go_wp2_with fail
 clear q0 c4;refine (iY b _ s.P11 dt _ (aA OK).P11 (aA Rdt) (aA S2)).mono ?_;rintro e w3 ⟨rfl,h,k⟩;have D3:=aB ((aA D2).kept k);clear D2;have S3:=aB h;have K3:=aB ((aA K2).trans k (Or.inl rfl));clear h k S2 K2;have q0:=(aA D3).hand.c0;go_wp2_with fail
 clear q0;have hS3:Hd w.heap.size b (w.heap.size+1) s w3.drew:=(aA D3).drew;clear D3;refine fD (S:=Hd w.heap.size b (w.heap.size+1) s) [(0,false),(1,false),(2,false),(3,false),(4,false),(5,false),(6,false),(7,false),(8,false),(9,true),(10,true),(11,false),(12,false),(13,true)] [] Yl Yl ?_;iterate 9
  refine bH (v:=?_) rfl (λ_ _ _ h=>h) (by rfl) hS3 ?_ ?_
  rotate_left 1
  .intro wx hwx;have q0:=hwx.hand.c0;have c0:=hwx.old.c0;have c1:=hwx.old.c1;have c2:=hwx.old.c2;have c3:=hwx.old.c3;have c4:=hwx.old.c4;clear hwx;go_simp<;>exact rfl
  go_frame
 refine bO rfl (λK hK=>?_);go_simp
 refine (iY b _ s.V dt _ (aA OK).V (aA Rdt) (SAt.drewN (aA S3) 1)).mono ?_;rintro e w4 ⟨rfl,h,k⟩;have hS4:=hS3.kept k;refine hK _ _ (λ_=>hS4) ?_;clear hK K hS3;have S4:=aB h;have K4:=aB (((aA K3).trans (gJ _ 1) (Or.inl rfl)).trans k (Or.inl rfl));clear h k S3 K3;refine bO rfl (λK hK=>?_);go_simp
 refine (kP b _ s.X (dQ s.V dt) _ (aA OK).X (qO _ _) (aA S4)).mono ?_;rintro e w5 ⟨rfl,h,k⟩;have hS5:=hS4.kept k;refine hK _ _ (λ_=>hS5) ?_;clear hK K hS4;have S5:=aB h;have K5:=aB ((aA K4).trans k (Or.inl rfl));clear h k S4 K4;iterate 2
  refine bH (v:=?_) rfl (λ_ _ _ h=>h) (by rfl) hS5 ?_ ?_
  rotate_left 1
  .intro wx hwx;have q0:=hwx.hand.c0;have c0:=hwx.old.c0;have c1:=hwx.old.c1;have c2:=hwx.old.c2;have c3:=hwx.old.c3;have c4:=hwx.old.c4;clear hwx;go_simp<;>exact rfl
  go_frame
 obtain⟨w6,e4,h,k⟩:=(aA S5).pX (lM s.X (dQ s.V dt));have c:=(aA S5).c0;have f:=(aA S5).free 0;refine bO rfl (λK hK=>?_);go_simp
 rw[<-e4];have D6:=aB (hS5.kept k);refine hK _ _ (λ_=>(aA D6)) ?_;have S6:=aB h;have K6:=aB ((aA K5).trans k (Or.inl rfl));clear hK K e4 h k c f hS5 S5 K5;refine gV ?_;have q0:=(aA D6).hand.c0;go_wp2_with fail
 clear q0;have hS6:Hd w.heap.size b (w.heap.size+1) s w6.drew:=(aA D6).drew;clear D6;refine fD (S:=Hd w.heap.size b (w.heap.size+1) s) [(0,false),(1,false),(2,false),(3,false),(4,false),(5,false),(6,false),(7,false),(9,false),(11,false),(12,false),(13,false),(8,true),(10,true),(14,true),(15,true),(16,false),(17,false),(18,true)] [] Yl Yl ?_;iterate 12
  refine bH (v:=?_) rfl (λ_ _ _ h=>h) (by rfl) hS6 ?_ ?_
  rotate_left 1
  .intro wx hwx;have q0:=hwx.hand.c0;have c0:=hwx.old.c0;have c1:=hwx.old.c1;have c2:=hwx.old.c2;have c3:=hwx.old.c3;have c4:=hwx.old.c4;clear hwx;go_simp<;>exact rfl
  go_frame
 refine bO rfl (λK hK=>?_);go_simp
 refine (kP b _ s.P00 (dQ s.P01 dt) _ (aA OK).P00 (qO _ _) (SAt.drewN (aA S6) 1)).mono ?_;rintro e w7 ⟨rfl,h,k⟩;have hS7:=hS6.kept k;refine hK _ _ (λ_=>hS7) ?_;clear hK K hS6;have S7:=aB h;have K7:=aB (((aA K6).trans (gJ _ 1) (Or.inl rfl)).trans k (Or.inl rfl));clear h k S6 K6;refine bO rfl (λK hK=>?_);go_simp
 refine (kP b _ (lM s.P00 (dQ s.P01 dt)) (dQ s.P01 dt) _ (qJ _ _) (qO _ _) (aA S7)).mono ?_;rintro e w8 ⟨rfl,h,k⟩;have hS8:=hS7.kept k;refine hK _ _ (λ_=>hS8) ?_;clear hK K hS7;have S8:=aB h;have K8:=aB ((aA K7).trans k (Or.inl rfl));clear h k S7 K7;refine bO rfl (λK hK=>?_);go_simp
 refine (iY b _ (dQ s.P11 dt) dt _ (qO _ _) (aA Rdt) (aA S8)).mono ?_;rintro e w9 ⟨rfl,h,k⟩;have hS9:=hS8.kept k;refine hK _ _ (λ_=>hS9) ?_;clear hK K hS8;have S9:=aB h;have K9:=aB ((aA K8).trans k (Or.inl rfl));clear h k S8 K8;refine bO rfl (λK hK=>?_);go_simp
 refine (kP b _ (lM (lM s.P00 (dQ s.P01 dt)) (dQ s.P01 dt)) (dQ (dQ s.P11 dt) dt) _ (qJ _ _) (qO _ _) (aA S9)).mono ?_;rintro e w10 ⟨rfl,h,k⟩;have hS10:=hS9.kept k;refine hK _ _ (λ_=>hS10) ?_;clear hK K hS9;have S10:=aB h;have K10:=aB ((aA K9).trans k (Or.inl rfl));clear h k S9 K9;iterate 2
  refine bH (v:=?_) rfl (λ_ _ _ h=>h) (by rfl) hS10 ?_ ?_
  rotate_left 1
  .intro wx hwx;have q0:=hwx.hand.c0;have c0:=hwx.old.c0;have c1:=hwx.old.c1;have c2:=hwx.old.c2;have c3:=hwx.old.c3;have c4:=hwx.old.c4;clear hwx;go_simp<;>exact rfl
  go_frame
 obtain⟨w11,e4,h,k⟩:=(aA S10).pP00 (lM (lM (lM s.P00 (dQ s.P01 dt)) (dQ s.P01 dt)) (dQ (dQ s.P11 dt) dt));have c:=(aA S10).c2;have f:=(aA S10).free 2;refine bO rfl (λK hK=>?_);go_simp
 rw[<-e4];have D11:=aB (hS10.kept k);refine hK _ _ (λ_=>(aA D11)) ?_;have S11:=aB h;have K11:=aB ((aA K10).trans k (Or.inl rfl));clear hK K e4 h k c f hS10 S10 K10;refine gV ?_;have q0:=(aA D11).hand.c0;go_wp2_with fail
 clear q0;have hS11:Hd w.heap.size b (w.heap.size+1) s w11.drew:=(aA D11).drew;clear D11;refine fD (S:=Hd w.heap.size b (w.heap.size+1) s) [(0,false),(1,false),(2,false),(3,false),(4,false),(5,false),(6,true),(7,false),(8,false),(9,true)] [] Yl Yl ?_;iterate 6
  refine bH (v:=?_) rfl (λ_ _ _ h=>h) (by rfl) hS11 ?_ ?_
  rotate_left 1
  .intro wx hwx;have q0:=hwx.hand.c0;have c0:=hwx.old.c0;have c1:=hwx.old.c1;have c2:=hwx.old.c2;have c3:=hwx.old.c3;have c4:=hwx.old.c4;clear hwx;go_simp<;>exact rfl
  go_frame
 refine bO rfl (λK hK=>?_);go_simp
 refine (kP b _ s.P01 (dQ s.P11 dt) _ (aA OK).P01 (qO _ _) (SAt.drewN (aA S11) 1)).mono ?_;rintro e w12 ⟨rfl,h,k⟩;have hS12:=hS11.kept k;refine hK _ _ (λ_=>hS12) ?_;clear hK K hS11;have S12:=aB h;have K12:=aB (((aA K11).trans (gJ _ 1) (Or.inl rfl)).trans k (Or.inl rfl));clear h k S11 K11;iterate 2
  refine bH (v:=?_) rfl (λ_ _ _ h=>h) (by rfl) hS12 ?_ ?_
  rotate_left 1
  .intro wx hwx;have q0:=hwx.hand.c0;have c0:=hwx.old.c0;have c1:=hwx.old.c1;have c2:=hwx.old.c2;have c3:=hwx.old.c3;have c4:=hwx.old.c4;clear hwx;go_simp<;>exact rfl
  go_frame
 obtain⟨w13,e4,h,k⟩:=(aA S12).pP01 (lM s.P01 (dQ s.P11 dt));have c:=(aA S12).c3;have f:=(aA S12).free 3;refine bO rfl (λK hK=>?_);go_simp
 rw[<-e4];have D13:=aB (hS12.kept k);refine hK _ _ (λ_=>(aA D13)) ?_;have S13:=aB h;have K13:=aB ((aA K12).trans k (Or.inl rfl));clear hK K e4 h k c f hS12 S12 K12;refine gV ?_;have q0:=(aA D13).hand.c0;go_wp2_with fail
 clear q0;have hS13:Hd w.heap.size b (w.heap.size+1) s w13.drew:=(aA D13).drew;clear D13;refine fD (S:=Hd w.heap.size b (w.heap.size+1) s) [(0,false),(1,false),(2,false),(3,false),(4,false),(5,false),(6,true),(7,false),(8,false),(9,true)] [] Yl Yl ?_;iterate 6
  refine bH (v:=?_) rfl (λ_ _ _ h=>h) (by rfl) hS13 ?_ ?_
  rotate_left 1
  .intro wx hwx;have q0:=hwx.hand.c0;have c0:=hwx.old.c0;have c1:=hwx.old.c1;have c2:=hwx.old.c2;have c3:=hwx.old.c3;have c4:=hwx.old.c4;clear hwx;go_simp<;>exact rfl
  go_frame
 refine bO rfl (λK hK=>?_);go_simp
 refine (kP b _ s.P11 q _ (aA OK).P11 (aA Rq) (SAt.drewN (aA S13) 1)).mono ?_;rintro e w14 ⟨rfl,h,k⟩;have hS14:=hS13.kept k;refine hK _ _ (λ_=>hS14) ?_;clear hK K hS13;have S14:=aB h;have K14:=aB (((aA K13).trans (gJ _ 1) (Or.inl rfl)).trans k (Or.inl rfl));clear h k S13 K13;iterate 2
  refine bH (v:=?_) rfl (λ_ _ _ h=>h) (by rfl) hS14 ?_ ?_
  rotate_left 1
  .intro wx hwx;have q0:=hwx.hand.c0;have c0:=hwx.old.c0;have c1:=hwx.old.c1;have c2:=hwx.old.c2;have c3:=hwx.old.c3;have c4:=hwx.old.c4;clear hwx;go_simp<;>exact rfl
  go_frame
 obtain⟨w15,e4,h,k⟩:=(aA S14).pP11 (lM s.P11 q);have c:=(aA S14).c4;have f:=(aA S14).free 4;refine bO rfl (λK hK=>?_);go_simp
 rw[<-e4];have D15:=aB (hS14.kept k);refine hK _ _ (λ_=>(aA D15)) ?_;have S15:=aB h;have K15:=aB ((aA K14).trans k (Or.inl rfl));clear hK K e4 h k c f hS14 S14 K14;refine gV ?_;go_wp2_with fail
 go_end0
 exact⟨rfl,aA S15,aA K15⟩
theorem aAv(b:Nat)(s:St)(y d:Int)(w:World)(hs:s.Ok)(hy:R64 y)(hd:R64 d)(h:SAt w b s):Calls Tryz.prog 250 #[vK b,.int .i64 y,.int .i64 d] w λe w'=>e=.returned (.tuple #[])/\SAt w' b (takeS s y d)/\Kept b w w':=by
 obtain⟨w1,e1,d1,s1,k1⟩:=tC h;have OK:=aB hs;have E1:=aB e1;have D1:=aB d1;have S1:=aB s1;have K1:=aB k1;have Ry:=aB hy;have Rd:=aB hd;have a0:=h.c0;have a1:=h.c1;have a2:=h.c2;have a3:=h.c3;have a4:=h.c4;have a5:=h.c5;have a6:=h.c6;have lb:=h.lt;clear hs e1 d1 s1 k1 h hy hd;go_enter Tryz.func250,Tryz.ntmps250
 go_wp2_with fail
 rw[<-aA E1];clear a0 a1 a2 a3 a4 a5 a6;refine (NN b _ s.P00 d _ (aA OK).P00 (aA Rd) (aA S1)).mono ?_;rintro e w2 ⟨rfl,h,k⟩;have D2:=aB ((aA D1).kept k);clear D1;have S2:=aB h;have K2:=aB ((aA K1).trans k (Or.inl rfl));clear h k S1 K1;have q0:=(aA D2).hand.c0;have c3:=(aA D2).old.c3;go_wp2_with fail
 clear q0 c3;refine (NN b _ s.P01 d _ (aA OK).P01 (aA Rd) (aA S2)).mono ?_;rintro e w3 ⟨rfl,h,k⟩;have D3:=aB ((aA D2).kept k);clear D2;have S3:=aB h;have K3:=aB ((aA K2).trans k (Or.inl rfl));clear h k S2 K2;have q0:=(aA D3).hand.c0;go_wp2_with fail
 clear q0;have hS3:Hd w.heap.size b (w.heap.size+1) s w3.drew:=(aA D3).drew;clear D3;refine fD (S:=Hd w.heap.size b (w.heap.size+1) s) [(0,false),(1,false),(2,false),(3,false),(4,false),(5,false),(6,false),(7,false),(8,true),(9,true),(10,false),(11,false),(12,true)] [] Yl Yl ?_;iterate 8
  refine bH (v:=?_) rfl (λ_ _ _ h=>h) (by rfl) hS3 ?_ ?_
  rotate_left 1
  .intro wx hwx;have q0:=hwx.hand.c0;have c0:=hwx.old.c0;have c1:=hwx.old.c1;have c2:=hwx.old.c2;have c3:=hwx.old.c3;have c4:=hwx.old.c4;clear hwx;go_simp<;>exact rfl
  go_frame
 refine bO rfl (λK hK=>?_);go_simp
 refine (iY b _ (fZ s.P00 d) y _ (Q7 _ _) (aA Ry) (SAt.drewN (aA S3) 1)).mono ?_;rintro e w4 ⟨rfl,h,k⟩;have hS4:=hS3.kept k;refine hK _ _ (λ_=>hS4) ?_;clear hK K hS3;have S4:=aB h;have K4:=aB (((aA K3).trans (gJ _ 1) (Or.inl rfl)).trans k (Or.inl rfl));clear h k S3 K3;refine bO rfl (λK hK=>?_);go_simp
 refine (kP b _ s.X (dQ (fZ s.P00 d) y) _ (aA OK).X (qO _ _) (aA S4)).mono ?_;rintro e w5 ⟨rfl,h,k⟩;have hS5:=hS4.kept k;refine hK _ _ (λ_=>hS5) ?_;clear hK K hS4;have S5:=aB h;have K5:=aB ((aA K4).trans k (Or.inl rfl));clear h k S4 K4;iterate 2
  refine bH (v:=?_) rfl (λ_ _ _ h=>h) (by rfl) hS5 ?_ ?_
  rotate_left 1
  .intro wx hwx;have q0:=hwx.hand.c0;have c0:=hwx.old.c0;have c1:=hwx.old.c1;have c2:=hwx.old.c2;have c3:=hwx.old.c3;have c4:=hwx.old.c4;clear hwx;go_simp<;>exact rfl
  go_frame
 obtain⟨w6,e4,h,k⟩:=(aA S5).pX (lM s.X (dQ (fZ s.P00 d) y));have c:=(aA S5).c0;have f:=(aA S5).free 0;refine bO rfl (λK hK=>?_);go_simp
 rw[<-e4];have D6:=aB (hS5.kept k);refine hK _ _ (λ_=>(aA D6)) ?_;have S6:=aB h;have K6:=aB ((aA K5).trans k (Or.inl rfl));clear hK K e4 h k c f hS5 S5 K5;refine gV ?_;have q0:=(aA D6).hand.c0;go_wp2_with fail
 clear q0;have hS6:Hd w.heap.size b (w.heap.size+1) s w6.drew:=(aA D6).drew;clear D6;refine fD (S:=Hd w.heap.size b (w.heap.size+1) s) [(0,false),(1,false),(2,false),(3,false),(4,false),(5,false),(6,false),(7,false),(8,true),(9,true),(10,false),(11,false),(12,true)] [] Yl Yl ?_;iterate 8
  refine bH (v:=?_) rfl (λ_ _ _ h=>h) (by rfl) hS6 ?_ ?_
  rotate_left 1
  .intro wx hwx;have q0:=hwx.hand.c0;have c0:=hwx.old.c0;have c1:=hwx.old.c1;have c2:=hwx.old.c2;have c3:=hwx.old.c3;have c4:=hwx.old.c4;clear hwx;go_simp<;>exact rfl
  go_frame
 refine bO rfl (λK hK=>?_);go_simp
 refine (iY b _ (fZ s.P01 d) y _ (Q7 _ _) (aA Ry) (SAt.drewN (aA S6) 1)).mono ?_;rintro e w7 ⟨rfl,h,k⟩;have hS7:=hS6.kept k;refine hK _ _ (λ_=>hS7) ?_;clear hK K hS6;have S7:=aB h;have K7:=aB (((aA K6).trans (gJ _ 1) (Or.inl rfl)).trans k (Or.inl rfl));clear h k S6 K6;refine bO rfl (λK hK=>?_);go_simp
 refine (kP b _ s.V (dQ (fZ s.P01 d) y) _ (aA OK).V (qO _ _) (aA S7)).mono ?_;rintro e w8 ⟨rfl,h,k⟩;have hS8:=hS7.kept k;refine hK _ _ (λ_=>hS8) ?_;clear hK K hS7;have S8:=aB h;have K8:=aB ((aA K7).trans k (Or.inl rfl));clear h k S7 K7;iterate 2
  refine bH (v:=?_) rfl (λ_ _ _ h=>h) (by rfl) hS8 ?_ ?_
  rotate_left 1
  .intro wx hwx;have q0:=hwx.hand.c0;have c0:=hwx.old.c0;have c1:=hwx.old.c1;have c2:=hwx.old.c2;have c3:=hwx.old.c3;have c4:=hwx.old.c4;clear hwx;go_simp<;>exact rfl
  go_frame
 obtain⟨w9,e4,h,k⟩:=(aA S8).pV (lM s.V (dQ (fZ s.P01 d) y));have c:=(aA S8).c1;have f:=(aA S8).free 1;refine bO rfl (λK hK=>?_);go_simp
 rw[<-e4];have D9:=aB (hS8.kept k);refine hK _ _ (λ_=>(aA D9)) ?_;have S9:=aB h;have K9:=aB ((aA K8).trans k (Or.inl rfl));clear hK K e4 h k c f hS8 S8 K8;refine gV ?_;have q0:=(aA D9).hand.c0;go_wp2_with fail
 clear q0;have hS9:Hd w.heap.size b (w.heap.size+1) s w9.drew:=(aA D9).drew;clear D9;refine fD (S:=Hd w.heap.size b (w.heap.size+1) s) [(0,false),(1,false),(2,false),(3,false),(4,false),(5,false),(6,false),(7,false),(8,false),(9,true),(10,true),(11,false),(12,false),(13,true)] [] Yl Yl ?_;iterate 9
  refine bH (v:=?_) rfl (λ_ _ _ h=>h) (by rfl) hS9 ?_ ?_
  rotate_left 1
  .intro wx hwx;have q0:=hwx.hand.c0;have c0:=hwx.old.c0;have c1:=hwx.old.c1;have c2:=hwx.old.c2;have c3:=hwx.old.c3;have c4:=hwx.old.c4;clear hwx;go_simp<;>exact rfl
  go_frame
 refine bO rfl (λK hK=>?_);go_simp
 refine (iY b _ (fZ s.P00 d) s.P00 _ (Q7 _ _) (aA OK).P00 (SAt.drewN (aA S9) 1)).mono ?_;rintro e w10 ⟨rfl,h,k⟩;have hS10:=hS9.kept k;refine hK _ _ (λ_=>hS10) ?_;clear hK K hS9;have S10:=aB h;have K10:=aB (((aA K9).trans (gJ _ 1) (Or.inl rfl)).trans k (Or.inl rfl));clear h k S9 K9;refine bO rfl (λK hK=>?_);go_simp
 refine (rG b _ s.P00 (dQ (fZ s.P00 d) s.P00) _ (aA OK).P00 (qO _ _) (aA S10)).mono ?_;rintro e w11 ⟨rfl,h,k⟩;have hS11:=hS10.kept k;refine hK _ _ (λ_=>hS11) ?_;clear hK K hS10;have S11:=aB h;have K11:=aB ((aA K10).trans k (Or.inl rfl));clear h k S10 K10;iterate 2
  refine bH (v:=?_) rfl (λ_ _ _ h=>h) (by rfl) hS11 ?_ ?_
  rotate_left 1
  .intro wx hwx;have q0:=hwx.hand.c0;have c0:=hwx.old.c0;have c1:=hwx.old.c1;have c2:=hwx.old.c2;have c3:=hwx.old.c3;have c4:=hwx.old.c4;clear hwx;go_simp<;>exact rfl
  go_frame
 obtain⟨w12,e4,h,k⟩:=(aA S11).pP00 (I5 s.P00 (dQ (fZ s.P00 d) s.P00));have c:=(aA S11).c2;have f:=(aA S11).free 2;refine bO rfl (λK hK=>?_);go_simp
 rw[<-e4];have D12:=aB (hS11.kept k);refine hK _ _ (λ_=>(aA D12)) ?_;have S12:=aB h;have K12:=aB ((aA K11).trans k (Or.inl rfl));clear hK K e4 h k c f hS11 S11 K11;refine gV ?_;have q0:=(aA D12).hand.c0;go_wp2_with fail
 clear q0;have hS12:Hd w.heap.size b (w.heap.size+1) s w12.drew:=(aA D12).drew;clear D12;refine fD (S:=Hd w.heap.size b (w.heap.size+1) s) [(0,false),(1,false),(2,false),(3,false),(4,false),(5,false),(6,false),(7,false),(8,false),(9,true),(10,true),(11,false),(12,false),(13,true)] [] Yl Yl ?_;iterate 9
  refine bH (v:=?_) rfl (λ_ _ _ h=>h) (by rfl) hS12 ?_ ?_
  rotate_left 1
  .intro wx hwx;have q0:=hwx.hand.c0;have c0:=hwx.old.c0;have c1:=hwx.old.c1;have c2:=hwx.old.c2;have c3:=hwx.old.c3;have c4:=hwx.old.c4;clear hwx;go_simp<;>exact rfl
  go_frame
 refine bO rfl (λK hK=>?_);go_simp
 refine (iY b _ (fZ s.P00 d) s.P01 _ (Q7 _ _) (aA OK).P01 (SAt.drewN (aA S12) 1)).mono ?_;rintro e w13 ⟨rfl,h,k⟩;have hS13:=hS12.kept k;refine hK _ _ (λ_=>hS13) ?_;clear hK K hS12;have S13:=aB h;have K13:=aB (((aA K12).trans (gJ _ 1) (Or.inl rfl)).trans k (Or.inl rfl));clear h k S12 K12;refine bO rfl (λK hK=>?_);go_simp
 refine (rG b _ s.P01 (dQ (fZ s.P00 d) s.P01) _ (aA OK).P01 (qO _ _) (aA S13)).mono ?_;rintro e w14 ⟨rfl,h,k⟩;have hS14:=hS13.kept k;refine hK _ _ (λ_=>hS14) ?_;clear hK K hS13;have S14:=aB h;have K14:=aB ((aA K13).trans k (Or.inl rfl));clear h k S13 K13;iterate 2
  refine bH (v:=?_) rfl (λ_ _ _ h=>h) (by rfl) hS14 ?_ ?_
  rotate_left 1
  .intro wx hwx;have q0:=hwx.hand.c0;have c0:=hwx.old.c0;have c1:=hwx.old.c1;have c2:=hwx.old.c2;have c3:=hwx.old.c3;have c4:=hwx.old.c4;clear hwx;go_simp<;>exact rfl
  go_frame
 obtain⟨w15,e4,h,k⟩:=(aA S14).pP01 (I5 s.P01 (dQ (fZ s.P00 d) s.P01));have c:=(aA S14).c3;have f:=(aA S14).free 3;refine bO rfl (λK hK=>?_);go_simp
 rw[<-e4];have D15:=aB (hS14.kept k);refine hK _ _ (λ_=>(aA D15)) ?_;have S15:=aB h;have K15:=aB ((aA K14).trans k (Or.inl rfl));clear hK K e4 h k c f hS14 S14 K14;refine gV ?_;have q0:=(aA D15).hand.c0;go_wp2_with fail
 clear q0;have hS15:Hd w.heap.size b (w.heap.size+1) s w15.drew:=(aA D15).drew;clear D15;refine fD (S:=Hd w.heap.size b (w.heap.size+1) s) [(0,false),(1,false),(2,false),(3,false),(4,false),(5,false),(6,false),(7,false),(8,false),(9,true),(10,true),(11,false),(12,false),(13,true)] [] Yl Yl ?_;iterate 9
  refine bH (v:=?_) rfl (λ_ _ _ h=>h) (by rfl) hS15 ?_ ?_
  rotate_left 1
  .intro wx hwx;have q0:=hwx.hand.c0;have c0:=hwx.old.c0;have c1:=hwx.old.c1;have c2:=hwx.old.c2;have c3:=hwx.old.c3;have c4:=hwx.old.c4;clear hwx;go_simp<;>exact rfl
  go_frame
 refine bO rfl (λK hK=>?_);go_simp
 refine (iY b _ (fZ s.P01 d) s.P01 _ (Q7 _ _) (aA OK).P01 (SAt.drewN (aA S15) 1)).mono ?_;rintro e w16 ⟨rfl,h,k⟩;have hS16:=hS15.kept k;refine hK _ _ (λ_=>hS16) ?_;clear hK K hS15;have S16:=aB h;have K16:=aB (((aA K15).trans (gJ _ 1) (Or.inl rfl)).trans k (Or.inl rfl));clear h k S15 K15;refine bO rfl (λK hK=>?_);go_simp
 refine (rG b _ s.P11 (dQ (fZ s.P01 d) s.P01) _ (aA OK).P11 (qO _ _) (aA S16)).mono ?_;rintro e w17 ⟨rfl,h,k⟩;have hS17:=hS16.kept k;refine hK _ _ (λ_=>hS17) ?_;clear hK K hS16;have S17:=aB h;have K17:=aB ((aA K16).trans k (Or.inl rfl));clear h k S16 K16;iterate 2
  refine bH (v:=?_) rfl (λ_ _ _ h=>h) (by rfl) hS17 ?_ ?_
  rotate_left 1
  .intro wx hwx;have q0:=hwx.hand.c0;have c0:=hwx.old.c0;have c1:=hwx.old.c1;have c2:=hwx.old.c2;have c3:=hwx.old.c3;have c4:=hwx.old.c4;clear hwx;go_simp<;>exact rfl
  go_frame
 obtain⟨w18,e4,h,k⟩:=(aA S17).pP11 (I5 s.P11 (dQ (fZ s.P01 d) s.P01));have c:=(aA S17).c4;have f:=(aA S17).free 4;refine bO rfl (λK hK=>?_);go_simp
 rw[<-e4];have D18:=aB (hS17.kept k);refine hK _ _ (λ_=>(aA D18)) ?_;have S18:=aB h;have K18:=aB ((aA K17).trans k (Or.inl rfl));clear hK K e4 h k c f hS17 S17 K17;refine gV ?_;have q0:=(aA D18).hand.c0;have c:=(aA S18).c6;have f:=(aA S18).free 6;obtain⟨w19,e4,h,k⟩:=(aA S18).pM 0;have S19:=aB h;have K19:=aB ((aA K18).trans k (Or.inl rfl));have E4:=aB e4;clear h k e4;go_wp2_with fail
 rw[<-aA E4]
 go_end0
 exact⟨rfl,aA S19,aA K19⟩
theorem St.Ok.bend(h:s.Ok)(x:Bool):(s.bend x).Ok:=⟨h.X,h.V,h.P00,h.P01,h.P11,h.M⟩
variable{gate:Int}
theorem aAT{z r:Int}(h:offW s r<=0):qP s z r gate=true:=by unfold qP;rw[Xt h,Bool.true_or]
theorem WV{z r:Int}(h:dQ gate (offW s r)<dQ (offY s z) (offY s z)):qP s z r gate=true:=by unfold qP;rw[Xt h,Bool.or_true]
theorem aAU{z r:Int}(h:¬offW s r<=0)(h2:¬dQ gate (offW s r)<dQ (offY s z) (offY s z)):qP s z r gate=false:=by unfold qP;rw[Xf h,Xf h2];rfl
theorem SAt.back(h:SAt w b s)(t:St):∃w',w'=(((((((w.setCell ⟨b,0,none⟩ (.int .i64 t.X)).setCell ⟨b,1,none⟩ (.int .i64 t.V)).setCell ⟨b,2,none⟩ (.int .i64 t.P00)).setCell ⟨b,3,none⟩ (.int .i64 t.P01)).setCell ⟨b,4,none⟩ (.int .i64 t.P11)).setCell ⟨b,5,none⟩ (.bool t.B)).setCell ⟨b,6,none⟩ (.int .i64 t.M)).setCell ⟨b,6,none⟩ (.int .i64 (wrap64 (t.M+1)))/\SAt w' b (t.setM (moreM t.M))/\Kept b w w':=by
 obtain⟨w1,e1,h1,k1⟩:=h.put t;obtain⟨w2,e2,h2,k2⟩:=h1.pM (moreM t.M);exact⟨w2,by rw[e2,e1];rfl,h2,k1.trans k2 (Or.inl rfl)⟩
theorem SH(b:Nat)(s:St)(z r gate:Int)(w:World)(hs:s.Ok)(hz:R64 z)(hr:R64 r)(hg:R64 gate)(h:SAt w b s)(hd:offW s r<=0):Calls Tryz.prog 221 #[vK b,.int .i64 z,.int .i64 r,.int .i64 gate] w λe w'=>e=.returned (.bool (wL s z r gate))/\SAt w' b (sF s z r gate)/\Kept b w w':=by
 obtain⟨y,ey⟩:∃y,y=offY s z:=⟨_,rfl⟩;obtain⟨d,ed⟩:∃d,d=offW s r:=⟨_,rfl⟩;rw[<-ed] at hd;have EY:=aB ey;have ED:=aB ed;have RY:=aB (show R64 y by rw[ey];exact X8 _ _);have RD:=aB (show R64 d by rw[ed];exact qJ _ _);clear ey ed;obtain⟨w1,e1,d1,s1,k1⟩:=tC h;have OK:=aB hs;have E1:=aB e1;have D1:=aB d1;have S1:=aB s1;have K1:=aB k1;have Rz:=aB hz;have Rr:=aB hr;have Rg:=aB hg;have a0:=h.c0;have a1:=h.c1;have a2:=h.c2;have a3:=h.c3;have a4:=h.c4;have a5:=h.c5;have a6:=h.c6;have lb:=h.lt;clear hs e1 d1 s1 k1 h hz hr hg;go_enter Tryz.func221,Tryz.ntmps221
 go_wp2_with fail
 rw[<-aA E1];clear a0 a1 a2 a3 a4 a5 a6;refine (rG b _ z s.X _ (aA Rz) (aA OK).X (aA S1)).mono ?_;rintro e w2 ⟨rfl,h,k⟩;have D2:=aB ((aA D1).kept k);have S2:=aB h;have K2:=aB ((aA K1).trans k (Or.inl rfl));clear h k S1 K1 D1;have q0:=(aA D2).hand.c0;have c2:=(aA D2).old.c2;go_wp2_with fail
 clear q0 c2;refine (kP b _ s.P00 r _ (aA OK).P00 (aA Rr) (aA S2)).mono ?_;rintro e w3 ⟨rfl,h,k⟩;have D3:=aB ((aA D2).kept k);have S3:=aB h;have K3:=aB ((aA K2).trans k (Or.inl rfl));clear h k S2 K2 D2;rw[show I5 z s.X=y from (aA EY).symm,show lM s.P00 r=d from (aA ED).symm];go_wp2_with fail
 have q0:=(aA D3).hand.c0
 go_region
 have D:=aB (aA D3).drew;have S:=aB (aA S3).drew;have K:=aB ((aA K3).trans (mJ w3) (Or.inl rfl));clear D3 S3 K3 q0;generalize w3.drew=u at*;have q0:=(aA D).hand.c0;have n1:=(aA D).n1;have n2:=(aA D).n2;have c0:=(aA D).old.c0;have c1:=(aA D).old.c1;have c2:=(aA D).old.c2;have c3:=(aA D).old.c3;have c4:=(aA D).old.c4;have c5:=(aA D).old.c5;have c6:=(aA D).old.c6;have b0:=(aA S).c0;have b1:=(aA S).c1;have b2:=(aA S).c2;have b3:=(aA S).c3;have b4:=(aA S).c4;have b5:=(aA S).c5;have b6:=(aA S).c6;have f0:=(aA S).free 0;have f1:=(aA S).free 1;have f2:=(aA S).free 2;have f3:=(aA S).free 3;have f4:=(aA S).free 4;have f5:=(aA S).free 5;have f6:=(aA S).free 6;obtain⟨w4,e4,h4,k4⟩:=(aA S).back s;have E4:=aB e4;have S4:=aB h4;have K4:=aB ((aA K).trans k4 (Or.inl rfl));clear e4 h4 k4;go_wp2_with fail
 rw[<-aA E4];go_ret
 have OV:qP s z r gate=true:=by apply aAT;rw[<-aA ED];exact hd
 unfold wL sF;rw[OV];exact⟨rfl,aA S4,aA K4⟩
theorem NQ(b:Nat)(s:St)(z r gate:Int)(w:World)(hs:s.Ok)(hz:R64 z)(hr:R64 r)(hg:R64 gate)(h:SAt w b s)(hd:¬offW s r<=0)(hp:dQ gate (offW s r)<dQ (offY s z) (offY s z)):Calls Tryz.prog 221 #[vK b,.int .i64 z,.int .i64 r,.int .i64 gate] w λe w'=>e=.returned (.bool (wL s z r gate))/\SAt w' b (sF s z r gate)/\Kept b w w':=by
 obtain⟨y,ey⟩:∃y,y=offY s z:=⟨_,rfl⟩;obtain⟨d,ed⟩:∃d,d=offW s r:=⟨_,rfl⟩;rw[<-ed] at hd hp;rw[<-ey] at hp;have EY:=aB ey;have ED:=aB ed;have RY:=aB (show R64 y by rw[ey];exact X8 _ _);have RD:=aB (show R64 d by rw[ed];exact qJ _ _);clear ey ed;obtain⟨w1,e1,d1,s1,k1⟩:=tC h;have OK:=aB hs;have E1:=aB e1;have D1:=aB d1;have S1:=aB s1;have K1:=aB k1;have Rz:=aB hz;have Rr:=aB hr;have Rg:=aB hg;have a0:=h.c0;have a1:=h.c1;have a2:=h.c2;have a3:=h.c3;have a4:=h.c4;have a5:=h.c5;have a6:=h.c6;have lb:=h.lt;clear hs e1 d1 s1 k1 h hz hr hg;go_enter Tryz.func221,Tryz.ntmps221
 go_wp2_with fail
 rw[<-aA E1];clear a0 a1 a2 a3 a4 a5 a6;refine (rG b _ z s.X _ (aA Rz) (aA OK).X (aA S1)).mono ?_;rintro e w2 ⟨rfl,h,k⟩;have D2:=aB ((aA D1).kept k);have S2:=aB h;have K2:=aB ((aA K1).trans k (Or.inl rfl));clear h k S1 K1 D1;have q0:=(aA D2).hand.c0;have c2:=(aA D2).old.c2;go_wp2_with fail
 clear q0 c2;refine (kP b _ s.P00 r _ (aA OK).P00 (aA Rr) (aA S2)).mono ?_;rintro e w3 ⟨rfl,h,k⟩;have D3:=aB ((aA D2).kept k);have S3:=aB h;have K3:=aB ((aA K2).trans k (Or.inl rfl));clear h k S2 K2 D2;rw[show I5 z s.X=y from (aA EY).symm,show lM s.P00 r=d from (aA ED).symm];go_wp2_with fail
 have hS3:Hd w.heap.size b (w.heap.size+1) s w3.drew:=(aA D3).drew;clear D3;refine fD (S:=Hd w.heap.size b (w.heap.size+1) s) [(0,false),(1,false),(2,false),(3,false),(4,false),(5,false),(7,false),(8,false),(9,false),(6,true),(10,true),(11,true),(12,true)] [] Yl Yl ?_;refine bH (v:=.int .i64 d) rfl (λ_ _ _ h=>h) (by rfl) hS3 ?_ ?_
 .intro wx hwx;have q0:=hwx.hand.c0;clear hwx;go_simp
 show iW _ _ _ _ _ _ (Act.put _ (some 26) _) _
 go_frame
 refine bH (v:=.bool false) rfl (λ_ _ _ h=>h) (by rfl) hS3 ?_ ?_
 .intro wx hwx;have q0:=hwx.hand.c0;clear hwx;go_simp
 show iW _ _ _ _ _ _ (Act.put _ (some 27) _) _
 go_frame
 refine bH (v:=.bool false) rfl (λ_ _ _ h=>h) (by rfl) hS3 ?_ ?_
 .intro wx hwx;have q0:=hwx.hand.c0;clear hwx;go_simp
 show iW _ _ _ _ _ _ (Act.put _ (some 28) _) _
 go_frame
 refine bH (v:=vK b) rfl (λ_ _ _ h=>h) (by go_simp) hS3 ?_ ?_
 .intro wx hwx;have q0:=hwx.hand.c0;clear hwx;go_simp
 show iW _ _ _ _ _ _ (Act.put _ (some 29) _) _
 go_frame
 refine bH (v:=.int .i64 y) rfl (λ_ _ _ h=>h) (by go_simp) hS3 ?_ ?_
 .intro wx hwx;have q0:=hwx.hand.c0;clear hwx;go_simp
 show iW _ _ _ _ _ _ (Act.put _ (some 30) _) _
 go_frame
 refine bH (v:=.int .i64 y) rfl (λ_ _ _ h=>h) (by go_simp) hS3 ?_ ?_
 .intro wx hwx;have q0:=hwx.hand.c0;clear hwx;go_simp
 show iW _ _ _ _ _ _ (Act.put _ (some 31) _) _
 go_frame
 refine bH (v:=vK b) rfl (λ_ _ _ h=>h) (by go_simp) hS3 ?_ ?_
 .intro wx hwx;have q0:=hwx.hand.c0;clear hwx;go_simp
 show iW _ _ _ _ _ _ (Act.put _ (some 33) _) _
 go_frame
 refine bH (v:=.int .i64 gate) rfl (λ_ _ _ h=>h) (by go_simp) hS3 ?_ ?_
 .intro wx hwx;have q0:=hwx.hand.c0;clear hwx;go_simp
 show iW _ _ _ _ _ _ (Act.put _ (some 34) _) _
 go_frame
 refine bH (v:=.int .i64 d) rfl (λ_ _ _ h=>h) (by go_simp) hS3 ?_ ?_
 .intro wx hwx;have q0:=hwx.hand.c0;clear hwx;go_simp
 show iW _ _ _ _ _ _ (Act.put _ (some 35) _) _
 go_frame
 refine bO rfl (λK hK=>?_);go_simp
 refine (iY b _ y y _ (aA RY) (aA RY) (SAt.drew (aA S3))).mono ?_;rintro e w4 ⟨rfl,h,k⟩;have hS4:=hS3.kept k;refine hK _ _ (λ_=>hS4) ?_;clear hK K hS3;have S4:=aB h;have K4:=aB (((aA K3).trans (mJ w3) (Or.inl rfl)).trans k (Or.inl rfl));clear h k S3 K3;refine bO rfl (λK hK=>?_);go_simp
 refine (iY b _ gate d _ (aA Rg) (aA RD) (aA S4)).mono ?_;rintro e w5 ⟨rfl,h,k⟩;have hS5:=hS4.kept k;refine hK _ _ (λ_=>hS5) ?_;clear hK K hS4;have S:=aB h;have K5:=aB ((aA K4).trans k (Or.inl rfl));have D:=aB hS5;clear h k S4 K4;refine bO rfl (λK hK=>?_);go_simp
 refine hK _ _ (λ_=>hS5) ?_;clear hK K;refine bO rfl (λK hK=>?_);go_simp
 refine hK _ _ (λ_=>hS5) ?_;clear hK K hS5;refine gV ?_;have K:=K5;clear K5;have q0:=(aA D).hand.c0;have n1:=(aA D).n1;have n2:=(aA D).n2;have c0:=(aA D).old.c0;have c1:=(aA D).old.c1;have c2:=(aA D).old.c2;have c3:=(aA D).old.c3;have c4:=(aA D).old.c4;have c5:=(aA D).old.c5;have c6:=(aA D).old.c6;have b0:=(aA S).c0;have b1:=(aA S).c1;have b2:=(aA S).c2;have b3:=(aA S).c3;have b4:=(aA S).c4;have b5:=(aA S).c5;have b6:=(aA S).c6;have f0:=(aA S).free 0;have f1:=(aA S).free 1;have f2:=(aA S).free 2;have f3:=(aA S).free 3;have f4:=(aA S).free 4;have f5:=(aA S).free 5;have f6:=(aA S).free 6;obtain⟨w4,e4,h4,k4⟩:=(aA S).back s;have E4:=aB e4;have S4:=aB h4;have K4:=aB ((aA K).trans k4 (Or.inl rfl));clear e4 h4 k4;go_wp2_with fail
 rw[<-aA E4];go_ret
 have OV:qP s z r gate=true:=by apply WV;rw[<-aA ED, <-aA EY];exact hp
 unfold wL sF;rw[OV];exact⟨rfl,aA S4,aA K4⟩
theorem NR(b:Nat)(s:St)(z r gate:Int)(w:World)(hs:s.Ok)(hz:R64 z)(hr:R64 r)(hg:R64 gate)(h:SAt w b s)(hd:¬offW s r<=0)(hp:¬dQ gate (offW s r)<dQ (offY s z) (offY s z)):Calls Tryz.prog 221 #[vK b,.int .i64 z,.int .i64 r,.int .i64 gate] w λe w'=>e=.returned (.bool (wL s z r gate))/\SAt w' b (sF s z r gate)/\Kept b w w':=by
 obtain⟨y,ey⟩:∃y,y=offY s z:=⟨_,rfl⟩;obtain⟨d,ed⟩:∃d,d=offW s r:=⟨_,rfl⟩;rw[<-ed] at hd hp;rw[<-ey] at hp;have EY:=aB ey;have ED:=aB ed;have RY:=aB (show R64 y by rw[ey];exact X8 _ _);have RD:=aB (show R64 d by rw[ed];exact qJ _ _);clear ey ed;obtain⟨w1,e1,d1,s1,k1⟩:=tC h;have OK:=aB hs;have E1:=aB e1;have D1:=aB d1;have S1:=aB s1;have K1:=aB k1;have Rz:=aB hz;have Rr:=aB hr;have Rg:=aB hg;have a0:=h.c0;have a1:=h.c1;have a2:=h.c2;have a3:=h.c3;have a4:=h.c4;have a5:=h.c5;have a6:=h.c6;have lb:=h.lt;clear hs e1 d1 s1 k1 h hz hr hg;go_enter Tryz.func221,Tryz.ntmps221
 go_wp2_with fail
 rw[<-aA E1];clear a0 a1 a2 a3 a4 a5 a6;refine (rG b _ z s.X _ (aA Rz) (aA OK).X (aA S1)).mono ?_;rintro e w2 ⟨rfl,h,k⟩;have D2:=aB ((aA D1).kept k);have S2:=aB h;have K2:=aB ((aA K1).trans k (Or.inl rfl));clear h k S1 K1 D1;have q0:=(aA D2).hand.c0;have c2:=(aA D2).old.c2;go_wp2_with fail
 clear q0 c2;refine (kP b _ s.P00 r _ (aA OK).P00 (aA Rr) (aA S2)).mono ?_;rintro e w3 ⟨rfl,h,k⟩;have D3:=aB ((aA D2).kept k);have S3:=aB h;have K3:=aB ((aA K2).trans k (Or.inl rfl));clear h k S2 K2 D2;rw[show I5 z s.X=y from (aA EY).symm,show lM s.P00 r=d from (aA ED).symm];go_wp2_with fail
 have hS3:Hd w.heap.size b (w.heap.size+1) s w3.drew:=(aA D3).drew;clear D3;refine fD (S:=Hd w.heap.size b (w.heap.size+1) s) [(0,false),(1,false),(2,false),(3,false),(4,false),(5,false),(7,false),(8,false),(9,false),(6,true),(10,true),(11,true),(12,true)] [] Yl Yl ?_;refine bH (v:=.int .i64 d) rfl (λ_ _ _ h=>h) (by rfl) hS3 ?_ ?_
 .intro wx hwx;have q0:=hwx.hand.c0;clear hwx;go_simp
 show iW _ _ _ _ _ _ (Act.put _ (some 26) _) _
 go_frame
 refine bH (v:=.bool false) rfl (λ_ _ _ h=>h) (by rfl) hS3 ?_ ?_
 .intro wx hwx;have q0:=hwx.hand.c0;clear hwx;go_simp
 show iW _ _ _ _ _ _ (Act.put _ (some 27) _) _
 go_frame
 refine bH (v:=.bool false) rfl (λ_ _ _ h=>h) (by rfl) hS3 ?_ ?_
 .intro wx hwx;have q0:=hwx.hand.c0;clear hwx;go_simp
 show iW _ _ _ _ _ _ (Act.put _ (some 28) _) _
 go_frame
 refine bH (v:=vK b) rfl (λ_ _ _ h=>h) (by go_simp) hS3 ?_ ?_
 .intro wx hwx;have q0:=hwx.hand.c0;clear hwx;go_simp
 show iW _ _ _ _ _ _ (Act.put _ (some 29) _) _
 go_frame
 refine bH (v:=.int .i64 y) rfl (λ_ _ _ h=>h) (by go_simp) hS3 ?_ ?_
 .intro wx hwx;have q0:=hwx.hand.c0;clear hwx;go_simp
 show iW _ _ _ _ _ _ (Act.put _ (some 30) _) _
 go_frame
 refine bH (v:=.int .i64 y) rfl (λ_ _ _ h=>h) (by go_simp) hS3 ?_ ?_
 .intro wx hwx;have q0:=hwx.hand.c0;clear hwx;go_simp
 show iW _ _ _ _ _ _ (Act.put _ (some 31) _) _
 go_frame
 refine bH (v:=vK b) rfl (λ_ _ _ h=>h) (by go_simp) hS3 ?_ ?_
 .intro wx hwx;have q0:=hwx.hand.c0;clear hwx;go_simp
 show iW _ _ _ _ _ _ (Act.put _ (some 33) _) _
 go_frame
 refine bH (v:=.int .i64 gate) rfl (λ_ _ _ h=>h) (by go_simp) hS3 ?_ ?_
 .intro wx hwx;have q0:=hwx.hand.c0;clear hwx;go_simp
 show iW _ _ _ _ _ _ (Act.put _ (some 34) _) _
 go_frame
 refine bH (v:=.int .i64 d) rfl (λ_ _ _ h=>h) (by go_simp) hS3 ?_ ?_
 .intro wx hwx;have q0:=hwx.hand.c0;clear hwx;go_simp
 show iW _ _ _ _ _ _ (Act.put _ (some 35) _) _
 go_frame
 refine bO rfl (λK hK=>?_);go_simp
 refine (iY b _ y y _ (aA RY) (aA RY) (SAt.drew (aA S3))).mono ?_;rintro e w4 ⟨rfl,h,k⟩;have hS4:=hS3.kept k;refine hK _ _ (λ_=>hS4) ?_;clear hK K hS3;have S4:=aB h;have K4:=aB (((aA K3).trans (mJ w3) (Or.inl rfl)).trans k (Or.inl rfl));clear h k S3 K3;refine bO rfl (λK hK=>?_);go_simp
 refine (iY b _ gate d _ (aA Rg) (aA RD) (aA S4)).mono ?_;rintro e w5 ⟨rfl,h,k⟩;have hS5:=hS4.kept k;refine hK _ _ (λ_=>hS5) ?_;clear hK K hS4;have S:=aB h;have K5:=aB ((aA K4).trans k (Or.inl rfl));have D:=aB hS5;clear h k S4 K4;refine bO rfl (λK hK=>?_);go_simp
 refine hK _ _ (λ_=>hS5) ?_;clear hK K;refine bO rfl (λK hK=>?_);go_simp
 refine hK _ _ (λ_=>hS5) ?_;clear hK K hS5;refine gV ?_;have K:=K5;clear K5;have q0:=(aA D).hand.c0;go_wp2_with fail
 clear q0;refine (aAv b _ y d _ (((((aA OK).bend _).bend _).bend _).bend _) (aA RY) (aA RD) (aA S)).mono ?_;rintro e w6 ⟨rfl,h,k⟩;have S6:=aB h;have K6:=aB ((aA K).trans k (Or.inl rfl));clear h k S K D;go_wp2_with fail
 go_ret
 have OV:qP s z r gate=false:=by apply aAU<;>rw[<-aA ED]<;>first|(rw[<-aA EY];omega)|omega
 unfold wL sF;rw[OV];refine⟨rfl,?_,aA K6⟩;have h6:=aA S6;rw[aA EY,aA ED] at h6;exact h6
theorem SG(b:Nat)(s:St)(z r gate:Int)(w:World)(hs:s.Ok)(hz:R64 z)(hr:R64 r)(hg:R64 gate)(h:SAt w b s):Calls Tryz.prog 221 #[vK b,.int .i64 z,.int .i64 r,.int .i64 gate] w λe w'=>e=.returned (.bool (wL s z r gate))/\SAt w' b (sF s z r gate)/\Kept b w w':=by
 by_cases hd:offW s r<=0
 .exact SH b s z r gate w hs hz hr hg h hd
 .by_cases hp:dQ gate (offW s r)<dQ (offY s z) (offY s z)
  .exact NQ b s z r gate w hs hz hr hg h hd hp
  .exact NR b s z r gate w hs hz hr hg h hd hp
theorem xG(w:World)(s:St):∃w1,w1=w.alloc (.cells #[.int .i64 s.X,.int .i64 s.V,.int .i64 s.P00,.int .i64 s.P01,.int .i64 s.P11,.bool s.B,.int .i64 s.M] 31)/\SAt w1 w.heap.size s/\Below w.heap.size w w1/\w1.heap.size=w.heap.size+1:=
 ⟨_,rfl,SAt.new w s,bK w _,dG w _⟩
theorem JZ(w:World)(s:St):∃w2,w2=(w.alloc (.cells #[.int .i64 s.X,.int .i64 s.V,.int .i64 s.P00,.int .i64 s.P01,.int .i64 s.P11,.bool s.B,.int .i64 s.M] 31)).alloc (.cells #[.int .i64 0,.int .i64 0,.int .i64 0,.int .i64 0,.int .i64 0,.bool false,.int .i64 0] 31)/\SAt w2 w.heap.size s/\SAt w2 (w.heap.size+1) St.nil/\Below w.heap.size w w2:=by
 obtain⟨w1,e1,h1,k1,z1⟩:=xG w s;obtain⟨w2,e2,h2,k2,z2⟩:=xG w1 St.nil;rw[z1] at h2;exact⟨w2,by rw[e2,e1];rfl,h1.below k2,h2,k1.trans (k2.mono k1.size)⟩
theorem TA(s:St)(dt q:Int)(w:World)(hs:s.Ok)(hdt:R64 dt)(hq:R64 q):Calls Tryz.prog 182 #[EL s,.int .i64 dt,.int .i64 q] w λe w'=>e=.returned (EL (uM s dt q))/\Below w.heap.size w w':=by
 obtain⟨w2,e2,h2,g2,k2⟩:=JZ w s;have OK:=aB hs;have RD:=aB hdt;have RQ:=aB hq;have E2:=aB e2;have H2:=aB h2;have G2:=aB g2;have K2:=aB k2;clear hs hdt hq e2 h2 g2 k2;go_enter Tryz.func182,Tryz.ntmps182
 go_wp2_with fail
 rw[<-aA E2];refine (NP w.heap.size s dt q _ (aA OK) (aA RD) (aA RQ) (aA H2)).mono ?_;rintro e w3 ⟨rfl,h3,k3⟩;have g3:=(aA G2).kept k3 Yo;have K3:=aB (aF (aA K2) k3 (Xr _) (aA K2).size);obtain⟨t,et⟩:∃t,t=uM s dt q:=⟨_,rfl⟩;rw[<-et] at h3;have ET:=aB et;have c0:=h3.c0;have c1:=h3.c1;have c2:=h3.c2;have c3:=h3.c3;have c4:=h3.c4;have c5:=h3.c5;have c6:=h3.c6;have b0:=g3.c0;have b1:=g3.c1;have b2:=g3.c2;have b3:=g3.c3;have b4:=g3.c4;have b5:=g3.c5;have b6:=g3.c6;have f0:=g3.free 0;have f1:=g3.free 1;have f2:=g3.free 2;have f3:=g3.free 3;have f4:=g3.free 4;have f5:=g3.free 5;have f6:=g3.free 6;obtain⟨w4,e4,h4,k4⟩:=g3.put t;have E4:=aB e4;have H4:=aB h4;have K4:=aB (aF (aA K3) k4 Yo (aA K3).size);clear h3 k3 g3 et e4 h4 k4;go_wp2_with fail
 rw[<-aA E4];have p0:=(aA H4).c0;have p1:=(aA H4).c1;have p2:=(aA H4).c2;have p3:=(aA H4).c3;have p4:=(aA H4).c4;have p5:=(aA H4).c5;have p6:=(aA H4).c6;refine bodyPost_ret (v:=EL t) (by simp[results,Tryz.results182,go_sem,p0,p1,p2,p3,p4,p5,p6]) rfl ⟨by rw[aA ET],aA K4⟩
theorem XY(s:St)(z r gate:Int)(w:World)(hs:s.Ok)(hz:R64 z)(hr:R64 r)(hg:R64 gate):Calls Tryz.prog 181 #[EL s,.int .i64 z,.int .i64 r,.int .i64 gate] w λe w'=>e=.returned (.tuple #[EL (sF s z r gate),.bool (wL s z r gate)])/\Below w.heap.size w w':=by
 obtain⟨w2,e2,h2,g2,k2⟩:=JZ w s;have OK:=aB hs;have RZ:=aB hz;have RR:=aB hr;have RG:=aB hg;have E2:=aB e2;have H2:=aB h2;have G2:=aB g2;have K2:=aB k2;clear hs hz hr hg e2 h2 g2 k2;go_enter Tryz.func181,Tryz.ntmps181
 go_wp2_with fail
 rw[<-aA E2];refine (SG w.heap.size s z r gate _ (aA OK) (aA RZ) (aA RR) (aA RG) (aA H2)).mono ?_;rintro e w3 ⟨rfl,h3,k3⟩;have g3:=(aA G2).kept k3 Yo;have K3:=aB (aF (aA K2) k3 (Xr _) (aA K2).size);obtain⟨t,et⟩:∃t,t=sF s z r gate:=⟨_,rfl⟩;obtain⟨tk,ek⟩:∃tk,tk=wL s z r gate:=⟨_,rfl⟩;rw[<-et] at h3;rw[<-ek];have ET:=aB et;have EK:=aB ek;have c0:=h3.c0;have c1:=h3.c1;have c2:=h3.c2;have c3:=h3.c3;have c4:=h3.c4;have c5:=h3.c5;have c6:=h3.c6;have b0:=g3.c0;have b1:=g3.c1;have b2:=g3.c2;have b3:=g3.c3;have b4:=g3.c4;have b5:=g3.c5;have b6:=g3.c6;have f0:=g3.free 0;have f1:=g3.free 1;have f2:=g3.free 2;have f3:=g3.free 3;have f4:=g3.free 4;have f5:=g3.free 5;have f6:=g3.free 6;obtain⟨w4,e4,h4,k4⟩:=g3.put t;have E4:=aB e4;have H4:=aB h4;have K4:=aB (aF (aA K3) k4 Yo (aA K3).size);clear h3 k3 g3 et ek e4 h4 k4;go_wp2_with fail
 rw[<-aA E4];have p0:=(aA H4).c0;have p1:=(aA H4).c1;have p2:=(aA H4).c2;have p3:=(aA H4).c3;have p4:=(aA H4).c4;have p5:=(aA H4).c5;have p6:=(aA H4).c6;refine bodyPost_ret (v:=.tuple #[EL t,.bool tk]) (by simp[results,Tryz.results181,go_sem,p0,p1,p2,p3,p4,p5,p6]) rfl ⟨by rw[aA ET,aA EK],aA K4⟩
def TAt(w:World)(b:Nat)(t:Tn):Prop:=w.heap[b]?=some (.cells #[.int .i64 t.Dt,.int .i64 t.Q,.int .i64 t.R,.int .i64 t.G] 27 (0,0))
variable{t:Tn}
theorem TAt.c0(h:TAt w b t):w.cell? ⟨b,0,none⟩=some (.int .i64 t.Dt):=by
 unfold TAt at h;unfold World.cell?;rw[h];rfl
theorem TAt.c1(h:TAt w b t):w.cell? ⟨b,1,none⟩=some (.int .i64 t.Q):=by
 unfold TAt at h;unfold World.cell?;rw[h];rfl
theorem TAt.c2(h:TAt w b t):w.cell? ⟨b,2,none⟩=some (.int .i64 t.R):=by
 unfold TAt at h;unfold World.cell?;rw[h];rfl
theorem TAt.c3(h:TAt w b t):w.cell? ⟨b,3,none⟩=some (.int .i64 t.G):=by
 unfold TAt at h;unfold World.cell?;rw[h];rfl
theorem TAt.lt(h:TAt w b t):b<w.heap.size:=lt_of_block h
theorem TAt.same(h:TAt w b t)(e:w'.heap[b]?=w.heap[b]?):TAt w' b t:=e.trans h
theorem TAt.below(h:TAt w b t)(k:Below w.heap.size w w'):TAt w' b t:=h.same (k.block b h.lt)
theorem TAt.kept(h:TAt w b t)(k:Kept z w w')(hz:b≠z):TAt w' b t:=h.same (k.block b h.lt hz)
theorem TAt.new(w:World)(t:Tn):TAt (w.alloc (.cells #[.int .i64 t.Dt,.int .i64 t.Q,.int .i64 t.R,.int .i64 t.G] 27)) w.heap.size t:=by
 unfold TAt;show (w.heap.push _)[w.heap.size]?=_
 rw[Array.getElem?_push_size]
structure ST (bs bt:Nat) (s:St) (t:Tn) (w:World):Prop where
 st:SAt w bs s
 tn:TAt w bt t
variable{bs bt:Nat}
theorem ST.below(h:ST bs bt s t w)(k:Below w.heap.size w w'):ST bs bt s t w':=⟨h.st.below k,h.tn.below k⟩
theorem ST.kept(h:ST bs bt s t w)(k:Kept z w w')(n1:bs≠z)(n2:bt≠z):ST bs bt s t w':=⟨h.st.kept k n1,h.tn.kept k n2⟩
theorem ST.drew(h:ST bs bt s t w):ST bs bt s t w.drew:=⟨h.st,h.tn⟩
theorem XU(w:World)(s:St)(t:Tn):∃w3,w3=((w.alloc (.cells #[.int .i64 s.X,.int .i64 s.V,.int .i64 s.P00,.int .i64 s.P01,.int .i64 s.P11,.bool s.B,.int .i64 s.M] 31)).alloc (.cells #[.int .i64 t.Dt,.int .i64 t.Q,.int .i64 t.R,.int .i64 t.G] 27)).alloc (.cells #[.int .i64 0,.int .i64 0,.int .i64 0,.int .i64 0,.int .i64 0,.bool false,.int .i64 0] 31)/\ST w.heap.size (w.heap.size+1) s t w3/\SAt w3 (w.heap.size+1+1) St.nil/\Below w.heap.size w w3:=by
 obtain⟨w1,e1,h1,k1,z1⟩:=xG w s;have h2:=TAt.new w1 t;have k2:=bK w1 (.cells #[.int .i64 t.Dt,.int .i64 t.Q,.int .i64 t.R,.int .i64 t.G] 27);have z2:=dG w1 (.cells #[.int .i64 t.Dt,.int .i64 t.Q,.int .i64 t.R,.int .i64 t.G] 27);rw[z1] at h2 z2;rw[<-e1];generalize w1.alloc (.cells #[.int .i64 t.Dt,.int .i64 t.Q,.int .i64 t.R,.int .i64 t.G] 27)=w2 at*;obtain⟨w3,e3,h3,k3,z3⟩:=xG w2 St.nil;rw[z2] at h3;have kk:=k1.trans (k2.mono k1.size);exact⟨w3,e3,⟨(h1.below k2).below k3,h2.below k3⟩,h3,kk.trans (k3.mono kk.size)⟩
theorem aFB(s:St)(t:Tn)(z:Int)(w:World)(hs:s.Ok)(ht:t.Ok)(hz:R64 z):Calls Tryz.prog 125 #[EL s,tnV t,.int .i64 z] w λe w'=>e=.returned (.tuple #[EL (xN s t z),.bool (XT s t z)])/\Below w.heap.size w w':=by
 obtain⟨w1,e1,d1,g1,k1⟩:=XU w s t;have OK:=aB hs;have OT:=aB ht;have RZ:=aB hz;have E1:=aB e1;have G1:=aB g1;have K1:=aB k1;have hS1:ST w.heap.size (w.heap.size+1) s t w1.drew:=d1.drew;clear hs ht hz e1 d1 g1 k1;go_enter Tryz.func125,Tryz.ntmps125
 go_wp2_with fail
 rw[<-aA E1];refine fD (S:=ST w.heap.size (w.heap.size+1) s t) [(0,false),(1,false),(2,false),(3,false),(4,false),(6,false),(7,false),(8,false),(9,false),(10,false),(5,true),(11,true),(12,false),(13,false),(14,true),(15,true)] [] Yl Yl ?_;iterate 10
  refine bH (v:=?_) rfl (λ_ _ _ h=>h) (by rfl) hS1 ?_ ?_
  rotate_left 1
  .intro wx hwx;have q0:=hwx.tn.c0;have q1:=hwx.tn.c1;have q2:=hwx.tn.c2;have q3:=hwx.tn.c3;have c0:=hwx.st.c0;have c1:=hwx.st.c1;have c2:=hwx.st.c2;have c3:=hwx.st.c3;have c4:=hwx.st.c4;have c5:=hwx.st.c5;have c6:=hwx.st.c6;clear hwx;go_simp<;>exact rfl
  go_frame
 refine bO rfl (λK hK=>?_);go_simp
 refine (TA s t.Dt t.Q _ (aA OK) (aA OT).Dt (aA OT).Q).mono ?_;rintro e w2 ⟨rfl,k⟩;have hS2:=hS1.below k;refine hK _ _ (λ_=>hS2) ?_;have G2:=aB (SAt.below (w:=w1.drew) (aA G1) k);have K2:=aB ((aY (aA K1)).trans (k.mono (aA K1).size));clear hK K hS1 k G1 K1;refine bO rfl (λK hK=>?_);go_simp
 refine (XY (uM s t.Dt t.Q) z t.R t.G _ (PH (aA OK) _ _) (aA RZ) (aA OT).R (aA OT).G).mono ?_;rintro e w3 ⟨rfl,k⟩;have hS3:=hS2.below k;refine hK _ _ (λ_=>hS3) ?_;have G3:=aB ((aA G2).below k);have K3:=aB ((aA K2).trans (k.mono (aA K2).size));clear hK K hS2 k G2 K2;rw[show sF (uM s t.Dt t.Q) z t.R t.G=xN s t z from rfl,show wL (uM s t.Dt t.Q) z t.R t.G=XT s t z from rfl];obtain⟨p,ep⟩:∃p,p=xN s t z:=⟨_,rfl⟩;obtain⟨tk,ek⟩:∃tk,tk=XT s t z:=⟨_,rfl⟩;rw[<-ep, <-ek];have EP:=aB ep;have EK:=aB ek;clear ep ek;iterate 2
  refine bH (v:=?_) rfl (λ_ _ _ h=>h) (by rfl) hS3 ?_ ?_
  rotate_left 1
  .intro wx hwx;clear hwx;go_simp<;>exact rfl
  go_frame
 have b0:=(aA G3).c0;have b1:=(aA G3).c1;have b2:=(aA G3).c2;have b3:=(aA G3).c3;have b4:=(aA G3).c4;have b5:=(aA G3).c5;have b6:=(aA G3).c6;have f0:=(aA G3).free 0;have f1:=(aA G3).free 1;have f2:=(aA G3).free 2;have f3:=(aA G3).free 3;have f4:=(aA G3).free 4;have f5:=(aA G3).free 5;have f6:=(aA G3).free 6;obtain⟨w4,e4,h4,k4⟩:=(aA G3).put p;refine bO rfl (λK hK=>?_);go_simp
 rw[<-e4];have hS4:=hS3.kept k4 Yo Yo;refine hK _ _ (λ_=>hS4) ?_;have G4:=aB h4;have K4:=aB (aF (aA K3) k4 Yo (aA K3).size);clear hK K b0 b1 b2 b3 b4 b5 b6 f0 f1 f2 f3 f4 f5 f6 e4 h4 k4 hS3 G3 K3;refine bO rfl (λK hK=>?_);go_simp
 refine hK _ _ (λ_=>hS4) ?_;clear hK K hS4;refine gV ?_;go_wp2_with fail
 have p0:=(aA G4).c0;have p1:=(aA G4).c1;have p2:=(aA G4).c2;have p3:=(aA G4).c3;have p4:=(aA G4).c4;have p5:=(aA G4).c5;have p6:=(aA G4).c6;refine bodyPost_ret (v:=.tuple #[EL p,.bool tk]) (by simp[results,Tryz.results125,go_sem,p0,p1,p2,p3,p4,p5,p6]) rfl ⟨by rw[aA EP,aA EK],aA K4⟩
end Go.Proofs.YthimcecbgpamdaaGreatDoor
