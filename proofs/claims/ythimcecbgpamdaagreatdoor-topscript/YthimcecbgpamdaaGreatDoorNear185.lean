import Derived.Test.YthimcecbgpamdaaGreatDoorNear187
import Derived.Test.YthimcecbgpamdaaGreatDoorNear200
set_option maxHeartbeats 1000000
namespace Go.Proofs.YthimcecbgpamdaaGreatDoor
open Go.RowKit Go.Lib
instance iDrvD_1:EntK Tryz.prog 81:=⟨λargs w=>Yh⟩
instance iDrvD_2:EntK Tryz.prog 80:=⟨λargs w=>Yh⟩
instance iDrvD_3:EntK Tryz.prog 140:=⟨λargs w=>Yh⟩
theorem AL(c:UInt8)(last:Nat):digW [c] last=if 48<=c.toNat/\c.toNat<=48+last then some (c.toNat-48) else none:=rfl
theorem oU(l:List UInt8)(last:Nat)(w:World):Calls Tryz.prog 81 #[tV l,.int .i64 (last:Nat)] w λe w'=>∃n:Int,e=.returned (.tuple #[.int .i64 n,.bool (digW l last).isSome])/\(∀i,digW l last=some i->n=(i:Nat))/\Below w.heap.size w w':=by
 refine bB Tryz.func81 rfl 22 rfl Yd (λA hs hd hb=>?_);have b0:A.eval (.tmp 0)=tV l:=hb 0 _ rfl;have b1:A.eval (.tmp 1)=.int .i64 (last:Nat):=hb 1 _ rfl;clear hb;have hz:(⟨l.toArray⟩:ByteArray).size=l.length:=by show l.toArray.size=_;rw[List.size_toArray]
 refine aD (aG ?_);iterate 2 refine qa ?_
 refine aC<|aH<|aD<|qa ?_;refine qg (xL _ rfl Qv _) ?_;rw[hz];refine qa ?_;refine aC<|iB (λhc=>?_) (λhc=>?_)
 .have h1:l.length≠1:=by
   have:¬(l.length:Int)=1:=by simpa using hc
   omega
  have e:digW l last=none:=by
   unfold digW;split
   .exact absurd rfl h1
   .rfl
  refine aD ?_;iterate 2 refine qa ?_
  refine aC ?_;exact aN (fC (aK YB (pF rfl Qv Qv) ⟨0,by rw[e];rfl,λi h=>by rw[e] at h;exact absurd h (by simp),Below.refl _ _⟩))
 have h1:l.length=1:=by
  have:(l.length:Int)=1:=by simpa using hc
  omega
 obtain⟨c,rfl⟩:∃c,l=[c]:=List.length_eq_one_iff.1 h1;have hc256:c.toNat<256:=UInt8.toNat_lt _;refine aS<|aD<|qa ?_;refine qg (PU (k:=0) (l:=[c]) _ _ rfl Qv Qv rfl Nat.one_pos _) ?_;refine qg (aEM (u:=c.toNat) _ rfl Qv hc256 _) ?_;iterate 2 refine qa ?_
 refine aC<|aD ?_;iterate 2 refine qa ?_
 by_cases h48:48<=c.toNat
 .refine qg (fU (b:=true) _ _ rfl Qv Qv (Xt Yo) _) ?_;iterate 3 refine qa ?_
  refine qg (wD (b:=decide (c.toNat<=48+last)) _ _ rfl Qv Qv (decide_eq_decide.2 Yo) _) ?_;refine qg (aO _ _ _ rfl Qv Qv _) ?_;iterate 2 refine qa ?_
  refine aC<|aN (aK YB (pF rfl Qv Qv) ⟨(c.toNat:Int)-48,?_,λi h=>?_,Below.refl _ _⟩)
  .have e:(digW [c] last).isSome=decide (c.toNat<=48+last):=by
    rw[AL];by_cases h2:c.toNat<=48+last
    .rw[if_pos ⟨h48,h2⟩,Xt h2];rfl
    .rw[if_neg (λh=>h2 h.2),Xf h2];rfl
   rw[e]
  .rw[AL] at h;split at h
   .cases h;omega
   .exact absurd h (by simp)
 .refine qg (fU (b:=false) _ _ rfl Qv Qv (Xf Yo) _) ?_;refine qa ?_;iterate 3 refine gM ?_
  refine qg (aZ _ _ _ rfl Qv Qv _) ?_;iterate 2 refine qa ?_
  refine aC ?_;have e:digW [c] last=none:=by
   rw[AL,if_neg (λh=>h48 h.1)]
  exact aN (aK YB (pF rfl Qv Qv) ⟨(c.toNat:Int)-48,by rw[e];rfl,λi h=>by rw[e] at h;exact absurd h (by simp),Below.refl _ _⟩)
def xQ(t:List UInt8):Nat->Value:=λ_=>tV t
def aGp(ws:List (List UInt8))(k:Nat):Prop:=∀j,j<k->∀t,ws[j]?=some t->jT t=0
variable{ws:List (List UInt8)}
theorem aDX(h:aGp ws ws.length):numW ws=some (ws.map iO):=by
 unfold numW;rw[if_pos (List.all_eq_true.2 λt ht=>?_)];obtain⟨j,hj⟩:=List.getElem?_of_mem ht;exact Xt (h j (List.getElem?_eq_some_iff.1 hj).1 t hj)
theorem aAQ{j:Nat}{t:List UInt8}(hj:ws[j]?=some t)(h:jT t≠0):numW ws=none:=by
 unfold numW;rw[if_neg (λe=>h (Xu (List.all_eq_true.1 e t (List.mem_of_getElem? hj))))]
theorem pG(ws:List (List UInt8))(ao:Option Addr)(cap:Nat)(mx:Int)(w:World)(hm:w.cell? ⟨1,0,none⟩=some (.int .i64 mx))(hr:RdS xQ 1 w ao ws)(hl:ws.length<=1000000):Calls Tryz.prog 80 #[.slice ao ws.length cap] w λe w'=>∃(v:Value),e=.returned (.tuple #[v,.bool (numW ws).isSome])/\(∀l,numW ws=some l->Cx w w' [fF w.heap.size 3 1 v l.length (rowV (iF (gL l)) l.length)])/\Below w.heap.size w w':=by
 refine bB Tryz.func80 rfl 28 rfl Yd (λA hs hd hb=>?_);have b0:A.eval (.tmp 0)=.slice ao ws.length cap:=hb 0 _ rfl;clear hb;have H:=Cx.start w;refine aD (aG ?_);iterate 2 refine qa ?_
 refine aC<|aD<|qa ?_;refine aC<|aH<|aD ?_;iterate 3 refine qa ?_
 refine aC<|aM ?_;refine cO (λr A W=>∃(k:Nat) (v:Value),k<=ws.length/\ws.length-k<=r/\A.tmps.size=28/\A.defers=[]/\A.eval (.tmp 4)=v/\A.eval (.tmp 9)=.slice ao ws.length cap/\A.eval (.tmp 10)=.int .i64 (ws.length:Nat)/\A.eval (.tmp 11)=.int .i64 (k:Nat)/\aGp ws k/\Cx w W [fF w.heap.size 3 1 v k (rowV (iF (gL (ws.map iO))) k)]) ws.length
  ⟨0,.slice none 0 0,Xz _,Yo,YA,YB,Qv,Qv,Qv,Qv,λj h=>absurd h (Nat.not_lt_zero j),H.add (Below.refl _ _) (fF w.heap.size 3 1 (.slice none 0 0) 0 _) (World.ownsRow_nil _ _ _ _) (λj e=>absurd e (λe=>nomatch e))⟩ (λr B W hI=>?_)
 clear b0 hs hd H;obtain⟨k,v,hk,hkr,hs,hd,b4,b9,b10,b11,hok,H⟩:=hI;refine aD (aG ?_);refine qa ?_;refine aC<|aH<|iB (λhc=>?_) (λhc=>?_)
 .have hin:k<ws.length:=by have:=Xu hc;omega
  obtain⟨b,o,rfl,hcell⟩:=hr Yo;have hcell:=hcell k ws[k] (List.getElem?_eq_getElem hin) 0 Yo;refine aS<|aH (aM ?_);refine aD<|qg (eB (i:=k) _ _ _ _ rfl SlcK.out SizK.out Qv Qv rfl hin _) ?_;refine qg (iG (v:=tV ws[k]) OneK.out (aU hcell H.bel) rfl Qv) ?_;refine qa ?_;refine aC<|aD<|qa ?_;refine kX (aBg ws[k] mx W (aU hm H.bel)) ?_;rintro e w1 ⟨rfl,k1⟩;refine⟨_,rfl,?_⟩;replace H:=H.call k1;iterate 5 refine qa ?_
  refine aC<|aH<|aD ?_;iterate 2 refine qa ?_
  refine aC<|iB (λhe=>?_) (λhe=>?_)
  .have h0:jT ws[k]≠0:=by simpa using he
   have e0:=aAQ (List.getElem?_eq_getElem hin) h0;refine aD ?_;iterate 2 refine qa ?_
   refine aC ?_;exact aN (fC (yA (fC (aLC (yA (fC (aK YB (pF rfl Qv Qv) ⟨_,by rw[e0];rfl,λl h=>by rw[e0] at h;exact absurd h (by simp),H.bel⟩)))))))
  .have h0:jT ws[k]=0:=by simpa using he
   refine aS<|aJ ?_;iterate 2 refine qa ?_
   refine bJ rfl Yw (λK hK=>VN (v:=.int .i64 (iO ws[k])) SlcK.out OneK.out Zer1.out rfl rfl rfl Qv (λV1 m1 k2 z9=>hK _ _ ?_));replace H:=H.call k2;refine aEm (bytes:=8) H.a0 (aIz m1) (λu hu=>by rw[List.mem_singleton.1 hu];rfl) Ym Yo ?_;clear H;intro v' w3 H;refine qa ?_;refine fG<|aJ ?_;repeat refine qa ?_
   exact bD ⟨ws.length-(k+1),Yo,k+1,v',Yo,Yo,YA,YB,Qv,Qv,Qv,Eq.trans Qv YC,λj hj t ht=>by
    by_cases e:j=k
    .rw[e,List.getElem?_eq_getElem hin] at ht
     cases ht
     exact h0
    .exact hok j Yo t ht,by
    have e1:rowV (iF (gL (ws.map iO))) k++[.int .i64 (iO ws[k])]=rowV (iF (gL (ws.map iO))) (k+1):=by
     unfold rowV;rw[List.range_succ,List.map_append,List.map_singleton]
     congr 2
     unfold iF gL;rw[List.getD_eq_getElem?_getD,List.getElem?_map,List.getElem?_eq_getElem hin];rfl
    rw[<-e1];exact H⟩
 .obtain rfl:k=ws.length:=by have:=Xg hc;omega
  refine bY (eY ?_);refine aD ?_;iterate 3 refine qa ?_
  refine aC ?_;have e0:=aDX hok;exact aN (aK YB (pF rfl Qv Qv) ⟨_,by rw[e0];rfl,λl h=>by
   rw[e0] at h
   cases h
   rw[List.length_map];exact H,H.bel⟩)
end Go.Proofs.YthimcecbgpamdaaGreatDoor
namespace Go.Proofs.YthimcecbgpamdaaGreatDoor
open Go.RowKit
theorem aHY:Many Tryz.prog 32 21:=Many.of _ Tryz.underlying32 rfl Yl
instance iRefCl2_1:ManyK Tryz.prog 119 4:=⟨Many.of _ Tryz.underlying119 rfl Yl⟩
instance iRefCl2_2:ArrK Tryz.prog 119 4 118:=⟨Tryz.underlying119⟩
instance iRefCl2_3:OneK Tryz.prog 118:=⟨⟨λw=>by go_simp,λw=>Yh⟩⟩
instance iRefCl2_4:SizK Tryz.prog 118 1:=⟨λw=>Yh⟩
def IntAt(w:World)(b:Nat)(s v:Value):Prop:=w.heap[b]?=some (.cells #[s,v] 141 (0,0))
variable{b:Nat}{s v:Value}{w:World}
theorem IntAt.cell0(h:IntAt w b s v):w.cell? ⟨b,0,none⟩=some s:=by
 unfold IntAt at h;simp[World.cell?,h]
theorem IntAt.cell1(h:IntAt w b s v):w.cell? ⟨b,1,none⟩=some v:=by
 unfold IntAt at h;simp[World.cell?,h]
theorem IntAt.free(h:IntAt w b s v)(i:Nat):w.frozen? ⟨b,i,none⟩=false:=by
 unfold IntAt at h;simp[World.frozen?,h]
theorem IntAt.lt(h:IntAt w b s v):b<w.heap.size:=lt_of_block h
variable{w':World}{z:Nat}
theorem IntAt.kept(h:IntAt w b s v)(k:Kept z w w')(hz:b≠z):IntAt w' b s v:=by
 unfold IntAt at h ⊢;rw[k.block b (lt_of_block h) hz];exact h
theorem IntAt.below(h:IntAt w b s v)(k:Below w.heap.size w w'):IntAt w' b s v:=by
 unfold IntAt at h ⊢;rw[k.block b (lt_of_block h)];exact h
theorem Kept.refl(z:Nat)(w:World):Kept z w w:=⟨rfl,rfl,rfl,Xr _,λ_ _ _=>rfl⟩
theorem Kept.setCell{a:World}(h:Kept z a w)(i:Nat)(u:Value):Kept z a (w.setCell ⟨z,i,none⟩ u):=
 ⟨h.os,h.tape,h.output,by simpa [World.setCell] using h.size,λk hk hn=>(heap_setCell_other w ⟨z,i,none⟩ k u hn).trans (h.block k hk hn)⟩
def Num(w:World)(b:Nat)(x:Int):Prop:=
 ∃(neg:Bool) (v:Value) (n:Nat) (f:Nat->Int),IntAt w b (.bool neg) v/\Sl w v n f/\Wd n f/\Nm n f/\x=iI neg (val f n)/\(n=0->neg=false)
variable{x:Int}
theorem Num.lt(h:Num w b x):b<w.heap.size:=by
 obtain⟨neg,v,n,f,h, -⟩:=h;exact h.lt
theorem Num.below(h:Num w b x)(k:Below w.heap.size w w'):Num w' b x:=by
 obtain⟨neg,v,n,f,h1,h2,h3,h4,h5,h6⟩:=h;exact⟨neg,v,n,f,h1.below k,h2.below k,h3,h4,h5,h6⟩
variable{f:Nat->Int}{n:Nat}
theorem aJG(hw:Wd n f)(hn:Nm n f)(h:n≠0):0<val f n:=by
 obtain⟨m,rfl⟩:∃m,n=m+1:=⟨n-1,Yo⟩;have:=aMb hw (by rcases hn with h|h;exact absurd h Yo;exact h);have:=pow_pos m;omega
def Own(w:World)(b N:Nat)(g:Nat->Int):Prop:=w.rowIs b 168 N (λj=>.int .u32 (g j))
def upd(g:Nat->Int)(k:Nat)(x:Int):Nat->Int:=λj=>if j=k then x else g j
variable{N:Nat}{g:Nat->Int}
theorem Own.set(h:Own w b N g)(k:Nat)(x:Int):Own (w.setCell ⟨b,k,none⟩ (.int .u32 x)) b N (upd g k x):=by
 have h2:=World.rowIs.set h k (.int .u32 x);have e:(λj=>if j=k then Value.int .u32 x else (λj=>Value.int .u32 (g j)) j)=λj=>Value.int .u32 (upd g k x j):=by
  funext j
  show (if j=k then Value.int .u32 x else Value.int .u32 (g j))=Value.int .u32 (if j=k then x else g j)
  split<;>rfl
 rw[e] at h2;exact h2
theorem Own.cell(h:Own w b N g){i:Nat}(hi:i<N):w.cell? ⟨b,i,none⟩=some (.int .u32 (g i)):=World.rowIs.cell h hi
theorem Own.free(h:Own w b N g)(i:Nat):w.frozen? ⟨b,i,none⟩=false:=World.rowIs.frozen h i
theorem Own.lt(h:Own w b N g):b<w.heap.size:=World.rowIs.lt h
def Has(w:World)(ao:Option Addr)(n:Nat)(f:Nat->Int):Prop:=0<n->∃b,ao=some ⟨b,0,none⟩/\b<w.heap.size/\Row w b n f
variable{ao:Option Addr}
theorem Has.below(h:Has w ao n f)(k:Below w.heap.size w w'):Has w' ao n f:=by
 intro hn;obtain⟨b,e,h1,h2⟩:=h hn;exact⟨b,e,Nat.lt_of_lt_of_le h1 k.size,h2.same (k.block b h1)⟩
def Drw(w w':World):Prop:=∃q,w'=w.drewN q
theorem Drw.refl(w:World):Drw w w:=⟨0,rfl⟩
theorem Drw.drew(h:Drw w w'):Drw w w'.drew:=by obtain⟨q,rfl⟩:=h;exact⟨q+1,rfl⟩
theorem Drw.drewN(h:Drw w w')(k:Nat):Drw w (w'.drewN k):=by obtain⟨q,rfl⟩:=h;exact⟨q+k,by rw[World.drewN_drewN]⟩
theorem Drw.trans{a b c:World}(h:Drw a b)(k:Drw b c):Drw a c:=by obtain⟨q,rfl⟩:=k;exact h.drewN q
theorem Drw.heap(h:Drw w w'):w'.heap=w.heap:=by obtain⟨q,rfl⟩:=h;rfl
theorem Drw.below(h:Drw w w')(B:Nat):Below B w w':=by obtain⟨q,rfl⟩:=h;exact below_drewN (Below.refl B w) q
def Two(bx by_:Nat)(xs xv ys yv:Value)(w:World):Prop:=
 w.cell? ⟨bx,0,none⟩=some xs/\w.cell? ⟨bx,1,none⟩=some xv/\w.cell? ⟨by_,0,none⟩=some ys/\w.cell? ⟨by_,1,none⟩=some yv
theorem lF{a:Addr}(h:w.cell? a=some v)(k:Below w.heap.size w w'):w'.cell? a=some v:=
 (k.cell (World.block_lt_of_cell? w a h)).trans h
variable{bx:Nat}{xv:Value}
theorem Two.below{by_:Nat}{xs ys yv:Value}(h:Two bx by_ xs xv ys yv w)(k:Below w.heap.size w w'):Two bx by_ xs xv ys yv w':=
 ⟨lF h.1 k,lF h.2.1 k,lF h.2.2.1 k,lF h.2.2.2 k⟩
def One(bx:Nat)(xs xv:Value)(w:World):Prop:=w.cell? ⟨bx,0,none⟩=some xs/\w.cell? ⟨bx,1,none⟩=some xv
theorem One.below{xs:Value}(h:One bx xs xv w)(k:Below w.heap.size w w'):One bx xs xv w':=⟨lF h.1 k,lF h.2 k⟩
def TwoV(bx by_:Nat)(xv yv:Value)(w:World):Prop:=w.cell? ⟨bx,1,none⟩=some xv/\w.cell? ⟨by_,1,none⟩=some yv
theorem TwoV.below{by_:Nat}{yv:Value}(h:TwoV bx by_ xv yv w)(k:Below w.heap.size w w'):TwoV bx by_ xv yv w':=⟨lF h.1 k,lF h.2 k⟩
def Turns(z r:Nat)(w w':World):Prop:=(∀(b:Nat) (y:Int),b≠z->b≠r->Num w b y->Num w' b y)/\(∀B,B<=z->B<=r->B<=w.heap.size->Below B w w')/\w.heap.size<=w'.heap.size
theorem Turns.of_below{r:Nat}(h:Below w.heap.size w w'):Turns z r w w':=⟨λ_ _ _ _ k=>k.below h,λ_ _ _ hB=>h.mono hB,h.size⟩
theorem Turns.trans{r:Nat}{a b c:World}(h:Turns z r a b)(k:Turns z r b c):Turns z r a c:=
 ⟨λi y h1 h2 n=>k.1 i y h1 h2 (h.1 i y h1 h2 n),λB h1 h2 h3=>(h.2.1 B h1 h2 h3).trans (k.2.1 B h1 h2 (Nat.le_trans h3 h.2.2)),Nat.le_trans h.2.2 k.2.2⟩
structure Dv (A:Int) (m T N:Nat) (v F q:Nat->Int) (k:Nat):Prop where
 f:∀i,0<=F i/\F i<4294967296
 g:∀i,0<=q i/\q i<4294967296
 qz:∀i,i<k->q i=0
 z:∀i,k+m<=i->i<T->F i=0
 lt:val F (k+m)<val v m*4294967296^k
 e:A=val F (k+m)+val v m*val q N
structure Dr (m:Nat) (v:Nat->Int):Prop where
 m2:2<=m
 w:Wd m v
 top:2147483648<=v (m-1)
theorem Dr.pos{m:Nat}{v:Nat->Int}(h:Dr m v):0<val v m:=by
 have h2:=h.m2;have ht:=h.top;exact aJG h.w (Or.inr Yo) Yo
theorem Own.same(h:Own w b N g)(hb:w'.heap[b]?=w.heap[b]?):Own w' b N g:=by
 obtain⟨cs,h1,h2,h3⟩:=h;exact⟨cs,hb.trans h1,h2,h3⟩
end Go.Proofs.YthimcecbgpamdaaGreatDoor
