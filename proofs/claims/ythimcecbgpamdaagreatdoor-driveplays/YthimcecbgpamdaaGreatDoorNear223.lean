import Derived.Test.YthimcecbgpamdaaGreatDoorNear229
import Derived.WalkSpells
import Derived.Lib.Mul64
import Derived.Deep.Draws
import Derived.Deep.OwnRows
import Derived.Laws.Cover3
import Derived.Laws.AppendOwnNone
open _root_ renaming Nat->C,rfl->Y,List->β,if_pos->δ,if_neg->π,Bool->σ,Option->χ,Array->ψ
open Option renaming some->D
open Go renaming World->E,yielded->I,Act->J,execOp->L,Oper->O,TypeId->q,undef->ζ,Program->θ,Calls->κ,Addr->ν,Exit->ξ,Operand->υ
open Go.Proofs.YthimcecbgpamdaaGreatDoor renaming SeqJ->F,cK->V,WpI->X,R64->Z,absZ->τ
open Go.Value renaming int->G,bool->U,pointer->γ,slice->ο,tuple->ρ
open Go.Region renaming wanted->H
open List renaming range->ε
open Go.Proofs.Tryz renaming prog->η
open Go.Obj renaming cells->ι
open Go.Ending renaming returned->μ
open Go.Instr renaming sureAddr->φ
namespace Go.Proofs.YthimcecbgpamdaaGreatDoor
section
open Go.RowKit
variable{p:Prop}
theorem hide(h:p):Hid p:=h
theorem aA(h:Hid p):p:=h
def aAs(n:σ):Int:=if n then -9223372036854775808 else 9223372036854775807
theorem NF(n)(m)(h:9223372036854775808<m):gD (V n m)=aAs n/\fO (V n m)=true:=by
 cases n
 .exact⟨yH (z:=m) Yo,C8 (z:=m) Yo⟩
 exact⟨uR (z:= -m) Yo,wR (z:= -m) Yo⟩
theorem UI(n)(w):κ η 293 #[U n] w λe w'=>e=μ (G .i64 (aAs n))/\w'=w:=by
 cases n
 .go_in;go_wp2;go_ret;exact⟨Y,Y⟩
 go_in;go_wp2;go_ret;exact⟨Y,Y⟩
theorem aNv(a b)(ha:Z a)(hb:Z b)(w):κ η 276 #[G .i64 a,G .i64 b] w λe w'=>e=μ (ρ #[G .i64 (gD (a+b)),U (fO (a+b))])/\w'=w:=by
 by_cases h:Z (a+b)
 .have t:=aQS a b ha hb h;have e1:=hide (yG h);have e2:=hide (vJ h);obtain⟨a1,a2⟩:=ha;obtain⟨b1,b2⟩:=hb;obtain⟨h1,h2⟩:=h;go_in;go_wp2;go_ret2;exact⟨by rw[aA e1,aA e2];rfl,rfl⟩
 have t:=aNw a b ha hb h;obtain⟨a1,a2⟩:=ha;obtain⟨b1,b2⟩:=hb;by_cases hn:a<0
 .have hlt:a+b< -9223372036854775808:=by unfold Z at h;omega
  have e1:=hide (uR hlt);have e2:=hide (wR hlt);clear h hlt;go_in;go_wp2;go_ret2;exact⟨by rw[aA e1,aA e2];rfl,rfl⟩
 have hlt:9223372036854775807<a+b:=by unfold Z at h;omega
 have e1:=hide (yH hlt);have e2:=hide (C8 hlt);clear h hlt;go_in;go_wp2;go_ret2;exact⟨by rw[aA e1,aA e2];rfl,rfl⟩
theorem aPO(a b)(ha:Z a)(hb:Z b)(w):κ η 275 #[G .i64 a,G .i64 b] w λe w'=>e=μ (ρ #[G .i64 (gD (a-b)),U (fO (a-b))])/\w'=w:=by
 by_cases h:Z (a-b)
 .have t:=aSC a b ha hb h;have e1:=hide (yG h);have e2:=hide (vJ h);obtain⟨a1,a2⟩:=ha;obtain⟨b1,b2⟩:=hb;obtain⟨h1,h2⟩:=h;go_in;go_wp2;go_ret2;exact⟨by rw[aA e1,aA e2];rfl,rfl⟩
 have t:=aPP a b ha hb h;obtain⟨a1,a2⟩:=ha;obtain⟨b1,b2⟩:=hb;by_cases hn:a<0
 .have hlt:a-b< -9223372036854775808:=by unfold Z at h;omega
  have e1:=hide (uR hlt);have e2:=hide (wR hlt);clear h hlt;go_in;go_wp2;go_ret2;exact⟨by rw[aA e1,aA e2];rfl,rfl⟩
 have hlt:9223372036854775807<a-b:=by unfold Z at h;omega
 have e1:=hide (yH hlt);have e2:=hide (C8 hlt);clear h hlt;go_in;go_wp2;go_ret2;exact⟨by rw[aA e1,aA e2];rfl,rfl⟩
theorem P5(a)(ha:Z a)(w):κ η 27 #[G .i64 a] w λe w'=>e=μ (G .u64 (τ a))/\w'=w:=by
 obtain⟨a1,a2⟩:=ha;by_cases h:a<0
 .have e1:Hid (τ a=IntKind.u64.wrap (-IntKind.u64.wrap a)):=by unfold τ;rw[δ h];show -a=_;rw[Eb,Eb];omega
  go_in;go_wp2;go_ret;exact⟨by rw[aA e1];rfl,rfl⟩
 have e1:Hid (τ a=a):=by unfold τ;rw[π h];exact rfl
 go_in;go_wp2;go_ret;exact⟨by rw[aA e1];rfl,rfl⟩
theorem aKl(n)(w):κ η 296 #[U n] w λe w'=>e=μ (G .u64 (halfZ n))/\w'=w:=by
 cases n
 .go_in;go_wp2;go_ret;exact⟨Y,Y⟩
 go_in;go_wp2;go_ret;exact⟨Y,Y⟩
theorem vP(n)(m)(h0:0<=m)(h1:m<18446744073709551616)(w):κ η 203 #[U n,G .u64 m] w λe w'=>e=μ (ρ #[G .i64 (gD (V n m)),U (fO (V n m))])/\w'=w:=by
 cases n
 .by_cases h:m<=9223372036854775807
  .have e1:Hid (gD (V false m)=m):=yG (z:=m) ⟨Yo,h⟩;have e2:Hid (fO (V false m)=false):=vJ (z:=m) ⟨Yo,h⟩;go_in;go_wp2;go_ret2;exact⟨by rw[aA e1,aA e2];rfl,rfl⟩
  have e1:Hid (gD (V false m)=9223372036854775807):=yH (z:=m) Yo;have e2:Hid (fO (V false m)=true):=C8 (z:=m) Yo;go_in;go_wp2;go_ret2;exact⟨by rw[aA e1,aA e2];rfl,rfl⟩
 by_cases h:m<=9223372036854775808
 .have e1:Hid (gD (V true m)=wrap64 (IntKind.u64.wrap (-m))):=by show gD (-m)=_;rw[yG ⟨Yo,Yo⟩,Eb];unfold wrap64;omega
  have e2:Hid (fO (V true m)=false):=vJ (z:= -m) ⟨Yo,Yo⟩;go_in;go_wp2;go_ret2;exact⟨by rw[aA e1,aA e2];rfl,rfl⟩
 have e1:Hid (gD (V true m)= -9223372036854775808):=uR (z:= -m) Yo;have e2:Hid (fO (V true m)=true):=wR (z:= -m) Yo;go_in;go_wp2;go_ret2;exact⟨by rw[aA e1,aA e2];rfl,rfl⟩
theorem add64_0(x y)(hx:0<=x)(hy:0<=y)(w):(callFunc 295 #[G .u64 x,G .u64 y,G .u64 0]).run η w=.ok (.value (ρ #[G .u64 ((x+y)%18446744073709551616),G .u64 ((x+y)/18446744073709551616)])) w:=by obtain⟨x,rfl⟩:=aB hx;obtain⟨y,rfl⟩:=aB hy;rw[run_callFunc_extern Tryz.func295 Yl Yl Yl Yl,run_add64 x y 0 Yo Yo Yo Yo];congr 5<;>omega
namespace M64
theorem maskN(a:C)(ha:a<18446744073709551616):bits .and .u64 a 4294967295=((a%4294967296:C)):=by have h:=bits_and_u64_nat a 4294967295 ha Yo;have e:=Mj a 32;grind
theorem divN(a:C):(a:Int)/4294967296=((a/4294967296:C)):=Yo
theorem mulN(a b:C):(a:Int)*(b)=((a*b:C)):=(gG a b).symm
theorem addN(a b:C):(a:Int)+(b)=((a+b:C)):=(yJ a b).symm
theorem wrapN(a:C)(ha:a<18446744073709551616):IntKind.u64.wrap a=(a):=by rw[Eb];omega
theorem wrapM(a:C):IntKind.u64.wrap a=((a%18446744073709551616:C)):=by rw[Eb];omega
end M64
set_option maxHeartbeats 1000000 in
theorem aHH(x y:C)(hx:x<18446744073709551616)(hy:y<18446744073709551616)(w):κ η 294 #[G .u64 x,G .u64 y] w λe w'=>e=μ (ρ #[G .u64 ((x*y/18446744073709551616:C)),G .u64 ((x*y%18446744073709551616:C))])/\w'=w:=by obtain⟨bd,bt,bw,hhi⟩:=Lib.mul64_hi x y hx hy;have ba:=Lib.half_mul_le (a:=x/4294967296) (b:=y/4294967296) Yo Yo;have bh:x/4294967296*(y/4294967296)+(x/4294967296*(y%4294967296)+x%4294967296*(y%4294967296)/4294967296)/4294967296+((x/4294967296*(y%4294967296)+x%4294967296*(y%4294967296)/4294967296)%4294967296+x%4294967296*(y/4294967296))/4294967296<18446744073709551616:=Yo;go_in;go_wp2;simp only[M64.maskN x hx,M64.maskN y hy,M64.divN,M64.mulN,M64.addN,M64.wrapN _ bd,M64.wrapN _ (show x/4294967296*(y%4294967296)<18446744073709551616 from Yo),M64.wrapN _ bt,M64.maskN _ bt,M64.wrapN _ (show x%4294967296*(y/4294967296)<18446744073709551616 from Yo),M64.wrapN _ bw,M64.wrapN _ (show x/4294967296*(y/4294967296)<18446744073709551616 from Yo),M64.wrapN _ (show x/4294967296*(y/4294967296)+(x/4294967296*(y%4294967296)+x%4294967296*(y%4294967296)/4294967296)/4294967296<18446744073709551616 from Yo),M64.wrapN _ bh,M64.wrapM (x*y)];rw[aA (hide hhi)];go_ret2;exact⟨Y,Y⟩
theorem aHG(x y)(x0:0<=x)(x1:x<18446744073709551616)(y0:0<=y)(y1:y<18446744073709551616)(w):κ η 294 #[G .u64 x,G .u64 y] w λe w'=>e=μ (ρ #[G .u64 (x*y/18446744073709551616),G .u64 (x*y%18446744073709551616)])/\w'=w:=by obtain⟨x,rfl⟩:=aB x0;obtain⟨y,rfl⟩:=aB y0;have h:=aHH x y Yo Yo w;grind
def Wd(n:C)(f:C->Int):Prop:=∀i,i<n->0<=f i/\f i<4294967296
def val(f:C->Int):C->Int
 |0=>0
 |n+1=>val f n+f n*4294967296^n
def Nm(n:C)(f:C->Int):Prop:=n=0\/f (n-1)≠0
variable{f:C->Int}
theorem wL{g:C->Int}:∀{n:C},(∀i,i<n->f i=g i)->val f n=val g n
 |0,_=>rfl
 |n+1,h=>by show val f n+f n*4294967296^n=val g n+g n*4294967296^n;rw[wL (λi hi=>h i Yo),h n Yo]
theorem pow_pos(n):(0:Int)<4294967296^n:=Int.pow_pos Yc
theorem dP:∀{n:C},Wd n f->0<=val f n/\val f n<4294967296^n
 |0,_=>⟨Bp _,(by decide:(0:Int)<4294967296^0)⟩
 |n+1,h=>by
  obtain⟨h0,h1⟩:=dP (λi hi=>h i Yo:Wd n f);obtain⟨g0,g1⟩:=h n Yo;have hp:=pow_pos n;have e1:0<=f n*4294967296^n:=Hg g0 Yo;have e2:(f n+1)*4294967296^n<=4294967296*4294967296^n:=Ci Yo Yo;rw[Bi,Fy] at e2;refine⟨?_,?_⟩
  .show 0<=val f n+f n*4294967296^n;omega
  show val f n+f n*4294967296^n<4294967296^(n+1);rw[Bw,Bc (4294967296^n)];omega
variable{m:C}
theorem gV:∀{n:C},m<=n->(∀i,m<=i->i<n->f i=0)->val f n=val f m
 |0,h,_=>by have:m=0:=Yo;subst this;rfl
 |n+1,h,hz=>by
  rcases Ar n m with hl|hl
  .have:m=n+1:=Yo;subst this;rfl
  show val f n+f n*4294967296^n=val f m;rw[gV hl (λi h1 h2=>hz i h1 Yo),hz n hl Yo];omega
variable{n:C}
theorem aCn(h:Wd (n+1) f)(hn:f n≠0):4294967296^n<=val f (n+1):=by have h0:=(dP (λi hi=>h i Yo:Wd n f)).1;have g0:=(h n Yo).1;have:=Ci (show 1<=f n by omega) (Ba (pow_pos n));show 4294967296^n<=val f n+f n*4294967296^n;omega
def Row(w:E)(b n:C)(f:C->Int):Prop:=∀i,i<n->w.cell? ⟨b,i,none⟩=D (G .u32 (f i))
def Sl(w:E)(v:Value)(n:C)(f:C->Int):Prop:=
 (v=ο none 0 0/\n=0)\/∃b cap,v=ο (D ⟨b,0,none⟩) n cap/\n<=cap/\cap<=9223372036854775807/\b<w.heap.size/\Row w b n f
variable{w w':E}
theorem Row.same{b}(h:Row w b n f)(hb:w'.heap[b]?=w.heap[b]?):Row w' b n f:=
 λi hi=>(World.cell?_of_block hb).trans (h i hi)
theorem Row.less{b}(h:Row w b n f)(hm:m<=n):Row w b m f:=λi hi=>h i Yo
theorem Wd.less(h:Wd n f)(hm:m<=n):Wd m f:=λi hi=>h i Yo
structure Kept (z:C) (w w':E):Prop where
 os:w'.os=w.os
 tape:w'.tape=w.tape
 output:w'.output=w.output
 size:w.heap.size<=w'.heap.size
 block:∀k,k<w.heap.size->k≠z->w'.heap[k]?=w.heap[k]?
variable{z:C}
theorem Kept.of_below(h:Below w.heap.size w w'):Kept z w w':=⟨h.os,h.tape,h.output,h.size,λk hk _=>h.block k hk⟩
theorem Kept.below(h:Kept z w w')(hz:w.heap.size<=z):Below w.heap.size w w':=⟨h.os,h.tape,h.output,h.size,λk hk=>h.block k hk Yo⟩
variable{a:E}
theorem Kept.trans{z'}{b c}(h:Kept z a b)(k:Kept z' b c)(hz:z'=z\/a.heap.size<=z'):Kept z a c:=
 ⟨k.os.trans h.os,k.tape.trans h.tape,k.output.trans h.output,Ap h.size k.size,λi hi hn=>(k.block i (Dz hi h.size) Yo).trans (h.block i hi hn)⟩
variable{v:Value}
theorem Sl.kept(h:Sl w v n f)(k:Kept z w w')(hz:∀b cap,v=ο (D ⟨b,0,none⟩) n cap->b≠z):Sl w' v n f:=by
 rcases h with h|⟨b,cap,hv,h1,h2,h3,h4⟩
 .exact Aa h
 exact Ab ⟨b,cap,hv,h1,h2,Dz h3 k.size,h4.same (k.block b h3 (hz b cap hv))⟩
theorem Sl.below(h:Sl w v n f)(k:Below w.heap.size w w'):Sl w' v n f:=by
 rcases h with h|⟨b,cap,hv,h1,h2,h3,h4⟩
 .exact Aa h
 exact Ab ⟨b,cap,hv,h1,h2,Dz h3 k.size,h4.same (k.block b h3)⟩
def BlAt(t:C)(w:E)(b:C)(x:σ):Prop:=w.heap[b]?=D (ι #[U x] t (0,0))
variable{b t:C}{x:σ}
theorem BlAt.cell0(h:BlAt t w b x):w.cell? ⟨b,0,none⟩=D (U x):=by unfold BlAt at h;simp[World.cell?,h]
theorem BlAt.free(h:BlAt t w b x)(i):w.frozen? ⟨b,i,none⟩=false:=by unfold BlAt at h;simp[World.frozen?,h]
theorem BlAt.lt(h:BlAt t w b x):b<w.heap.size:=Cq h
theorem BlAt.kept(h:BlAt t w b x)(k:Kept z w w')(hz:b≠z):BlAt t w' b x:=by unfold BlAt at h ⊢;rw[k.block b (Cq h) hz];exact h
theorem BlAt.below(h:BlAt t w b x)(k:Below w.heap.size w w'):BlAt t w' b x:=by unfold BlAt at h ⊢;rw[k.block b (Cq h)];exact h
theorem BlAt.set(h:BlAt t w b x)(y):BlAt t (w.setCell ⟨b,0,none⟩ (U y)) b y:=by exact Bz w b 0 _ _ (U y) h
theorem BlAt.new(t)(w:E)(x):BlAt t (w.alloc (ι #[U x] t)) w.heap.size x:=by show (w.heap.push _)[w.heap.size]?=_;rw[Bt]
theorem IX(z)(w):Kept z w w:=⟨rfl,rfl,rfl,Xr _,λ_ _ _=>rfl⟩
theorem bN(w)(b i)(u):Kept b w (w.setCell ⟨b,i,none⟩ u):=
 ⟨rfl,rfl,rfl,by simp[World.setCell],λk _ hn=>heap_setCell_other w ⟨b,i,none⟩ k u hn⟩
theorem oZ(w):Kept z w w.drew:=⟨rfl,rfl,rfl,Xr _,λ_ _ _=>rfl⟩
variable{B:C}
theorem aF(h:Below B a w)(k:Kept z w w')(hz:B<=z)(hB:B<=w.heap.size:=by first|exact Below.size (by assumption)|omega):Below B a w':=
 h.trans ⟨k.os,k.tape,k.output,k.size,λi hi=>k.block i Yo Yo⟩
theorem aY(h:Below B a w):Below B a w.drew:=⟨h.os,h.tape,h.output,h.size,h.block⟩
theorem fA(w:E)(o):(w.alloc o).heap.size=w.heap.size+1:=by show (w.heap.push _).size=_;grind
theorem aDG(w)(o):Kept z w (w.alloc o):=Kept.of_below ((Af _ _).alloc (Xr _) _)
theorem bU(w)(o):Below w.heap.size w (w.alloc o):=(Af _ _).alloc (Xr _) _
variable{a:ν}
theorem AC(h:w.cell? a=D v)(k:Kept z w w')(hz:a.block≠z):w'.cell? a=D v:=
 (World.cell?_of_block (k.block a.block (Gy w a h) hz)).trans h
theorem aP(h:w.cell? a=D v)(k:Below w.heap.size w w'):w'.cell? a=D v:=
 (World.cell?_of_block (k.block a.block (Gy w a h))).trans h
structure Kp2 (y z:C) (w w':E):Prop where
 os:w'.os=w.os
 tape:w'.tape=w.tape
 output:w'.output=w.output
 size:w.heap.size<=w'.heap.size
 block:∀k,k<w.heap.size->k≠y->k≠z->w'.heap[k]?=w.heap[k]?
theorem Kp2.refl(y z)(w):Kp2 y z w w:=⟨rfl,rfl,rfl,Xr _,λ_ _ _ _=>rfl⟩
variable{y:C}
theorem Kp2.trans{a b c}(h:Kp2 y z a b)(k:Kp2 y z b c):Kp2 y z a c:=
 ⟨k.os.trans h.os,k.tape.trans h.tape,k.output.trans h.output,Ap h.size k.size,λi hi h1 h2=>(k.block i (Dz hi h.size) h1 h2).trans (h.block i hi h1 h2)⟩
theorem Kp2.of_kept{v}(h:Kept v w w')(e:v=y\/v=z\/w.heap.size<=v):Kp2 y z w w':=
 ⟨h.os,h.tape,h.output,h.size,λk hk h1 h2=>h.block k hk Yo⟩
theorem Kp2.of_below(h:Below w.heap.size w w'):Kp2 y z w w':=⟨h.os,h.tape,h.output,h.size,λk hk _ _=>h.block k hk⟩
theorem Kp2.one{w0}(h:Kept y w0 w)(k:Kp2 y z w w')(hz:w0.heap.size<=z):Kept y w0 w':=
 ⟨k.os.trans h.os,k.tape.trans h.tape,k.output.trans h.output,Ap h.size k.size,λi hi h1=>(k.block i (Dz hi h.size) h1 Yo).trans (h.block i hi h1)⟩
theorem Kp2.below{w0}(h:Below B w0 w)(k:Kp2 y z w w')(hy:B<=y)(hz:B<=z)(hB:B<=w.heap.size):Below B w0 w':=
 h.trans ⟨k.os,k.tape,k.output,k.size,λi hi=>k.block i Yo Yo Yo⟩
theorem jV(w)(k):Kept z w (w.drewN k):=⟨rfl,rfl,rfl,Xr _,λ_ _ _=>rfl⟩
def stW(g:C->Value)(k:C)(x:Value):C->Value:=λj=>if j=k then x else g j
theorem lL(g:C->Value)(k)(x):stW g k x k=x:=δ rfl
variable{k:C}
theorem iR(g:C->Value){j}(x)(h:j≠k):stW g k x j=g j:=π h
def Vh(t:q)(w:E)(b N cap:C)(g:C->Value):Prop:=
 ∃cur,w.heap[b]?=D (ι cur t (0,0))/\cur.size=cap/\N<=cap/\cap<=maxLen/\∀i,i<N->cur[i]?=D (g i)
section
variable {t:q} {w w':E} {b N cap:C} {g:C->Value}
theorem Vh.cell(h:Vh t w b N cap g){i}(hi:i<N):w.cell? ⟨b,i,none⟩=D (g i):=by obtain⟨c,hb,_,_,_,hc⟩:=h;simp[World.cell?,hb,hc i hi]
theorem Vh.free(h:Vh t w b N cap g)(i):w.frozen? ⟨b,i,none⟩=false:=by obtain⟨c,hb,_⟩:=h;simp[World.frozen?,hb]
theorem Vh.lt(h:Vh t w b N cap g):b<w.heap.size:=by obtain⟨c,hb,_⟩:=h;exact Cq hb
theorem Vh.same(h:Vh t w b N cap g)(e:w'.heap[b]?=w.heap[b]?):Vh t w' b N cap g:=by obtain⟨c,hb,hr⟩:=h;exact⟨c,e.trans hb,hr⟩
theorem Vh.congr{f:C->Value}(h:Vh t w b N cap g)(e:∀i,i<N->g i=f i):Vh t w b N cap f:=by obtain⟨c,hb,h1,h2,h3,h4⟩:=h;exact⟨c,hb,h1,h2,h3,λi hi=>by rw[h4 i hi,e i hi]⟩
theorem Vh.less{M}(h:Vh t w b N cap g)(e:M<=N):Vh t w b M cap g:=by obtain⟨c,hb,h1,h2,h3,h4⟩:=h;exact⟨c,hb,h1,Yo,h3,λi hi=>h4 i Yo⟩
theorem Vh.kept(h:Vh t w b N cap g)(k:Kept z w w')(hz:b≠z):Vh t w' b N cap g:=h.same (k.block b h.lt hz)
theorem Vh.below(h:Vh t w b N cap g)(k:Below w.heap.size w w'):Vh t w' b N cap g:=h.same (k.block b h.lt)
theorem Vh.set(h:Vh t w b N cap g)(i)(x):Vh t (w.setCell ⟨b,i,none⟩ x) b N cap (stW g i x):=by
 obtain⟨c,hb,hn,h2,h3,hc⟩:=h;refine⟨c.setIfInBounds i x,?_,by simpa using hn,h2,h3,λj hj=>?_⟩
 .simp[World.setCell,Array.getElem?_modify,hb]
 rw[Array.getElem?_setIfInBounds];by_cases e:j=i
 .subst e;rw[lL];simp[hn];omega
 rw[π (λh=>e h.symm),iR g x e];exact hc j hj
theorem Vh.new(w:E)(t)(c)g(hn:c.size<=maxLen)(h:∀i,i<c.size->c[i]?=D (g i)):Vh t (w.alloc (ι c t)) w.heap.size c.size c.size g:=
 ⟨c,Nj,rfl,Xr _,hn,h⟩
theorem Vh.made(w:E)(t)(z)(n)(hn:n<=maxLen):Vh t (w.alloc (ι (madeCells #[z] n) t)) w.heap.size n n (λ_=>z):=by obtain⟨c,h1,h2,h3⟩:=World.rowIs_made w z n t;exact⟨c,h1,h2,Xr _,hn,h3⟩
theorem Vh.whole(h:Vh t w b N N g):w.heap[b]?=D (ι ((ε N).map g).toArray t (0,0)):=by obtain⟨c,hb,hn,_,_,hc⟩:=h;rw[hb];congr 2;grind
theorem Vh.of_row(g:C->Value)(N)(hN:N<=maxLen)(h:w.heap[b]?=D (ι ((ε N).map g).toArray t (0,0))):Vh t w b N N g:=by refine⟨_,h,Mt,Xr _,hN,λi hi=>?_⟩;grind
end
def rowV(g:C->Value)(l:C):β Value:=(ε l).map g
theorem M9(g:C->Value)(l):(rowV g l).length=l*1:=by simp[rowV]
theorem iA(g:C->Value)(l):(rowV g l).length=l:=by simp[rowV]
variable{l:C}
theorem iU(g:C->Value){i}(hi:i<l):(rowV g l)[i]?=D (g i):=by unfold rowV;grind
theorem jQ(g:C->Value){i}(hi:l<=i):(rowV g l)[i]?=none:=by rw[Dh];rw[iA];exact hi
theorem pW(g:C->Value)(l)(h:∀i,i<l->(g i).oneCell'=true):∀u∈rowV g l,u.oneCell'=true:=by intro u hu;obtain⟨i,hi,rfl⟩:=Eh.1 hu;exact h i Jc
variable{f:C->Value}
theorem iW{g:C->Value}(h:∀i,i<l->g i=f i):rowV g l=rowV f l:=by
 apply Gg;intro i;rcases Ar i l with hi|hi
 .rw[iU _ hi,iU _ hi,h i hi]
 rw[jQ _ hi,jQ _ hi]
theorem mH(g f)(n m):rowV g n++rowV f m=rowV (λi=>if i<n then g i else f (i-n)) (n+m):=by
 apply Gg;intro i;rcases Ar i n with hi|hi
 .rw[Fs (by rw[iA];exact hi),iU _ hi,iU _ Yo,δ hi]
 rw[Hr (by rw[iA];exact hi),iA];rcases Ar i (n+m) with h2|h2
 .rw[iU _ Yo,iU _ h2,π Yo]
 rw[jQ _ Yo,jQ _ h2]
def Rd(w:E)(ao:χ ν)(len:C)(g:C->Value):Prop:=0<len->∃b o,ao=D ⟨b,o,none⟩/\∀i,i<len->w.cell? ⟨b,o+i,none⟩=D (g i)
section
variable {t:q} {w w':E} {b N cap len:C} {g:C->Value} {ao:χ ν}
theorem Rd.below(h:Rd w ao len g)(k:Below w.heap.size w w'):Rd w' ao len g:=by intro hl;obtain⟨b,o,e,hc⟩:=h hl;exact⟨b,o,e,λi hi=>aP (hc i hi) k⟩
theorem Rd.congr(h:Rd w ao len g)(e:∀i,i<len->g i=f i):Rd w ao len f:=by intro hl;obtain⟨b,o,ea,hc⟩:=h hl;grind
theorem Rd.less(h:Rd w ao len g)(e:k<=len):Rd w ao k g:=by intro hl;obtain⟨b,o,ea,hc⟩:=h Yo;grind
theorem Rd.lt(h:Rd w ao len g)(hl:0<len):∃b o,ao=D ⟨b,o,none⟩/\b<w.heap.size:=by obtain⟨b,o,ea,hc⟩:=h hl;exact⟨b,o,ea,Gy w ⟨b,o+0,none⟩ (hc 0 hl)⟩
theorem Vh.rd(h:Vh t w b N cap g):Rd w (D ⟨b,0,none⟩) N g:=λ_=>⟨b,0,rfl,λi hi=>by rw[Ah];exact h.cell hi⟩
theorem Rd.list(h:Rd w ao len g)(hl:0<len):∃a,ao=D a/\∀(j) u,(rowV g len)[j]?=D u->w.cell? (a.add j)=D u:=by
 obtain⟨b,o,e,hc⟩:=h hl;refine⟨_,e,λj u hj=>?_⟩;rw[Dq];rcases Ar j len with h2|h2
 .rw[iU g h2] at hj;grind
 rw[jQ g h2] at hj;cases hj
variable{base:C}
theorem Vh.of_owns(hn:1<=n)(h:w.ownsRow base t 1 v n (rowV g n)):∃r cap,v=ο (D ⟨r,0,none⟩) n cap/\base<=r/\Vh t w r n cap g:=by
 obtain⟨hl,h1⟩:=h;rcases h1 with ⟨rfl,rfl⟩|⟨r,cap,cur,rfl,hg,hh,hc,hm,hsz,hcur⟩
 .omega
 refine⟨r,cap,Y,hg,cur,hh,by simpa using hsz,hc,hm,λi hi=>?_⟩;rw[<-iU g hi, <-hcur,Ie,δ Yo,Im]
theorem Vh.owns(h:Vh t w b N cap g)(hb:base<=b):w.ownsRow base t 1 (ο (D ⟨b,0,none⟩) N cap) N (rowV g N):=by
 obtain⟨c,h1,h2,h3,h4,h5⟩:=h;refine⟨M9 g N,Ab ⟨b,cap,c,Y,hb,h1,h3,h4,Yo,?_⟩⟩;apply Gg;intro i;rw[Ie];by_cases hi:i<N
 .rw[δ Yo,iU g hi,Im,h5 i hi]
 rw[π Yo,jQ g Yo]
theorem jK{xs}(h:w.ownsRow base t 1 v n xs):∃ao cap,v=ο ao n cap:=by
 rcases h.2 with ⟨rfl,rfl⟩|⟨r,cap,cur,rfl,_⟩
 .grind
 grind
variable{ao:χ ν}
theorem wH{cap}(h:w.ownsRow base t 1 (ο ao n cap) n (rowV g n)):Rd w ao n g:=by intro hn;obtain⟨r,c,e,_,hv⟩:=Vh.of_owns hn h;cases e;exact hv.rd hn
end
theorem Ac:type_of% @Vh.congr:=@Vh.congr
theorem Cf:type_of% @Vh.of_row:=@Vh.of_row
theorem Ch:type_of% @Kept.of_below:=@Kept.of_below
end
section
open Go.RowKit
def aX(g:C->Value)(o n:C):Value:=.agg ((ε n).map λj=>g (o+j)).toArray
def stP(g:C->Value)(o n:C)(f:C->Value):C->Value:=λj=>if o<=j/\j<o+n then f (j-o) else g j
variable{n:C}
theorem qI(g:C->Value){o j}f(h:j<n):stP g o n f (o+j)=f j:=by unfold stP;grind
theorem qJ(g:C->Value){o j}f(h:j<o\/o+n<=j):stP g o n f j=g j:=by unfold stP;rw[π Yo]
theorem kC(b o i):(⟨b,o,none⟩:ν).add i=⟨b,o+i,none⟩:=by unfold Addr.add;grind
section
variable {P:θ}
theorem xB(b o:C)(t:q)(N cap:C)(f:C->Value):∀(n i:C) (g:C->Value) (w:E),Vh t w b N cap g->o+i+n<=N->(∀j,j<n->(f (i+j)).oneCell'=true)->∃w',(storeCells ⟨b,o,none⟩ ((ε n).map λj=>f (i+j)) i).run P w=.ok () w'/\Vh t w' b N cap (stP g (o+i) n (λj=>f (i+j)))/\Kept b w w'/\w'.heap.size=w.heap.size
 |0,i,g,w,h,_,_=>⟨w,rfl,h.congr λj _=>(qJ _ _ Yo).symm,⟨rfl,rfl,rfl,Xr _,λ_ _ _=>rfl⟩,rfl⟩
 |n+1,i,g,w,h,hN,h1=>by
  have hst:(store ((⟨b,o,none⟩:ν).add i) (f i)).run P w=.ok () (w.setCell ⟨b,o+i,none⟩ (f i)):=by rw[kC,run_store P w _ _ _ (by simpa using h1 0 Yo),h.cell (show o+i<N by omega)];simp[h.free]
  have hs:=h.set (o+i) (f i);obtain⟨w',e,hv,k,z⟩:=xB b o t N cap f n (i+1) _ _ hs Yo (λj hj=>by have:=h1 (j+1) Yo;rwa [show i+(j+1)=i+1+j by omega] at this);have el:((ε (n+1)).map λj=>f (i+j))=f i::(ε n).map λj=>f (i+1+j):=by rw[List.range_succ_eq_map,Aw,List.map_map];congr 1;apply Cw;intro j _;show f (i+(j+1))=_;rw[show i+(j+1)=i+1+j by omega]
  refine⟨w',?_,hv.congr λj hj=>?_,⟨k.os,k.tape,k.output,?_,λm hm hb=>?_⟩,?_⟩
  .rw[el];simp only[storeCells,Aq,hst,Bb,e]
  .by_cases c:o+i<=j/\j<o+i+(n+1)
   .by_cases d:j=o+i
    .subst d;rw[qJ _ _ Yo,lL];have:=qI g (o:=o+i) (n:=n+1) (j:=0) (λj=>f (i+j)) Yo;simpa using this.symm
    obtain⟨m,rfl⟩:∃m,j=o+(i+1)+m:=⟨j-(o+(i+1)),Yo⟩;rw[qI _ _ Yo];have:=qI g (o:=o+i) (n:=n+1) (j:=m+1) (λj=>f (i+j)) Yo;rw[show o+(i+1)+m=o+i+(m+1) by omega,this,show i+(m+1)=i+1+m by omega]
   rw[qJ _ _ Yo,qJ _ _ Yo,iR _ _ Yo]
  .have:(w.setCell ⟨b,o+i,none⟩ (f i)).heap.size=w.heap.size:=by simp[World.setCell]
   omega
  .rw[k.block m (by simpa [World.setCell] using hm) hb];simp[World.setCell,Array.getElem?_modify,Ne.symm hb]
  rw[z];simp[World.setCell]
structure Many (P:θ) (ty:q) (n:C):Prop where
 agg:∀w,(isAgg ty).run P w=.ok true w
 size:∀w,(sizeOf ty).run P w=.ok n w
theorem Many.of{ty:q}(d:TypeDesc)(hu:P.underlying ty=D d)(hd:(match d with|.struct _|.array _ _=>true|_=>false)=true)(hi:(P.info? ty).map (·.size)=D n):Many P ty n:=by
 cases a:P.info? ty with
 |none=>simp[a] at hi
 |some i=>
  have hs:i.size=n:=by simpa [a] using hi
  refine⟨λw=>?_,λw=>by simp[sizeOf,typeInfo,a,hs]⟩;unfold isAgg;rw[Aq,Fq hu w];cases d<;>simp_all
variable{f:υ->Value}{g:C->Value}{o:O}{t:q}
theorem bE(ty)(x)(ho:o.op=.load ty x){b k N cap}(T:Many P ty n)(hx:f x=γ (D ⟨b,k,none⟩)){w}(hm:Vh t w b N cap g)(hn:k+n<=N):(L f o).run P w=.ok (.value (aX g k n)) w:=by
 have a:(loadCells ⟨b,k,none⟩ n).run P w=.ok ((ε n).map λj=>g (k+j)).toArray w:=
  run_loadCells w ⟨b,k,none⟩ n (λj=>g (k+j)) (λj c=>by rw[kC];exact hm.cell Yo)
 unfold L;simp only[ho,hx,Instr.loadAt,φ,loadVar,Aq,Bo,Bb,T.agg,T.size,a,if_true];rfl
variable{Q:ξ->J->E->Prop}
theorem aW{a}{K:J->E->Prop}(w)(ty)(x y)(ho:o.op=.store ty x y){b k N cap}{f:C->Value}(T:Many P ty n)(hx:a.eval x=γ (D ⟨b,k,none⟩))(hy:a.eval y=aX f 0 n)(hm:Vh t w b N cap g)(hn:k+n<=N)(h1:∀j,j<n->(f j).oneCell'=true)(hd:o.dst=none)(h:∀w',Vh t w' b N cap (stP g k n f)->Kept b w w'->w'.heap.size=w.heap.size->K a w'):X P o a w K Q:=by
 refine⟨?_⟩;obtain⟨w',e,d,l,z⟩:=xB (P:=P) b k t N cap f n 0 g w hm hn (λj c=>by simpa using h1 j c);have m:(storeVar ty ⟨b,k,none⟩ (aX f 0 n)).run P w=.ok () w':=by unfold storeVar aX;simp only[Value.cells,Aq,T.size,Bb];grind
 unfold Oper.wp L;simp only[ho,hx,hy,Instr.storeAt,φ,Aq,Bo,Bb,m];show K (a.put o.dst ζ) w';rw[hd];exact (h w' (by simpa using d) l z)
end
end
section
open Go
section
variable {P:θ} {ops:ψ O} {Q:ξ->J->E->Prop} {a:J} {w:E} {rest:β O} {o:O}
structure LstI (P:θ) (ops:ψ O) (Q:ξ->J->E->Prop) (l:β O) (a:J) (w:E):Prop where
 out:wpList P ops Q l a w
variable{id:C}{l:β O}
theorem aKW(h:LstI P l.toArray Q l a w):(Code.region id l.toArray false).wp P Q a w:=wp_region_lit h.out
theorem kL(h:Q .normal a w):LstI P ops Q [] a w:=⟨wpList_nil h⟩
theorem aTG{v}(hw:H o (I ops a.tmps)=true)(hy:(L a.eval o).run P w=.ok (.value v) w)(h:LstI P ops Q rest (a.put o.dst v) w):LstI P ops Q (o::rest) a w:=
 ⟨wpList_step λK hK=>by rw[δ hw];unfold Oper.wp;rw[hy];exact hK _ _ h.out⟩
theorem aRP(hw:H o (I ops a.tmps)=false)(h:LstI P ops Q rest (a.put o.dst ζ) w):LstI P ops Q (o::rest) a w:=⟨wpList_skip hw h.out⟩
theorem aRO(hw:H o (I ops a.tmps)=true)(h:∀K,(∀a' w',LstI P ops Q rest a' w'->K a' w')->X P o a w K Q):LstI P ops Q (o::rest) a w:=
 ⟨wpList_step λK hK=>by rw[δ hw];exact (h K (λa' w' h1=>hK a' w' h1.out)).out⟩
structure CodI (P:θ) (c:Code) (Q:ξ->J->E->Prop) (a:J) (w:E):Prop where
 out:c.wp P Q a w
variable{x y:Code}
theorem lS(R:J->E->Prop)(h:CodI P x (λe a' w'=>e=.normal/\R a' w') a w)(k:∀a' w',R a' w'->CodI P y Q a' w'):CodI P (.seq x y) Q a w:=
 ⟨wp_seq (Code.wp_mono (λe a' w' ⟨c,hr⟩=>by rw[c];exact (k a' w' hr).out) h.out)⟩
theorem aI(h:LstI P l.toArray Q l a w):CodI P (.region id l.toArray false) Q a w:=⟨aKW h⟩
variable{c:υ}
theorem aS(hc:a.eval c=U true)(h:CodI P x Q a w):CodI P (.cond c x y) Q a w:=⟨wp_cond_true hc h.out⟩
theorem aO(hc:a.eval c=U false)(h:CodI P y Q a w):CodI P (.cond c x y) Q a w:=⟨wp_cond_false hc h.out⟩
theorem iE(h:Q .normal a w):CodI P .skip Q a w:=⟨wp_skip h⟩
end
structure Stay (ks:β C) (a b:J):Prop where
 ev:∀k,k∈ks->b.eval (.tmp k)=a.eval (.tmp k)
 size:b.tmps.size=a.tmps.size
 defers:b.defers=a.defers
theorem Stay.refl(ks)(a):Stay ks a a:=⟨λ_ _=>rfl,rfl,rfl⟩
variable{a:J}{ks:β C}
theorem Stay.trans{b c}(h:Stay ks a b)(k:Stay ks b c):Stay ks a c:=⟨λi hi=>(k.ev i hi).trans (h.ev i hi),k.size.trans h.size,k.defers.trans h.defers⟩
theorem Stay.put{b}(h:Stay ks a b)(d)(v)(hd:ks.contains d=false):Stay ks a (b.put (D d) v):=
 ⟨λi hi=>(F5 _ _ (λe=>by subst e;rw[List.contains_eq_mem,Ik] at hd;exact hd hi)).trans (h.ev i hi),(aCg ..).trans h.size,h.defers⟩
section
variable {P:θ} {ops:ψ O} {Q:ξ->J->E->Prop} {md:Region.Mode} {S:E->Prop} {late:C->σ}
variable{i:C}{o:O}{r:PlanJ}{w:E}
theorem aUk(ho:ops[i]?=D o)(hQ:∀c a w,Q (.panic c) (a.put o.dst ζ) w->Q (.panic c) a w)(hw:H o (I ops a.tmps)=false)(hS:S w)(h:F P ops Q S late r (a.put o.dst ζ) w):F P ops Q S late (.rd i r) a w:=⟨⟨o,ζ,ho,Ab ⟨hw,rfl⟩,hS,hQ,h.out⟩⟩
theorem aNl(ho:ops[i]?=D o)(hw:H o (I ops a.tmps)=true)(h:∀K,(∀a w',(late i=false->S w->S w')->F P ops Q S late r a w'->K a w')->X P o a w K Q):F P ops Q S late (.go i r) a w:=
 ⟨wpOp_step ho (λc hK=>by rw[δ hw];exact (h c (λa w h1 h2=>hK a w ⟨h1,h2.out⟩)).out)⟩
theorem aUm{j:C}{oi oj:O}{ri rj:PlanJ}(hoi:ops[i]?=D oi)(hoj:ops[j]?=D oj)(hwi:H oi (I ops a.tmps)=true)(hwj:H oj (I ops a.tmps)=true)(h:∀K:J->E->Prop,(∀a w',(late i=false->S w->S w')->F P ops Q S late ri a w'->K a w')->X P oi a w K Q)(k:∀K:J->E->Prop,(∀a w',(late j=false->S w->S w')->F P ops Q S late rj a w'->K a w')->X P oj a w K Q):F P ops Q S late (.two i j ri rj) a w:=
 ⟨⟨wpOp_step hoi (λK' hK=>by rw[δ hwi];exact (h K' (λa w h1 h2=>hK a w ⟨h1,h2.out⟩)).out),wpOp_step hoj (λK' hK=>by rw[δ hwj];exact (k K' (λa w h1 h2=>hK a w ⟨h1,h2.out⟩)).out)⟩⟩
theorem aSx{l}(T:J->E->Prop)(hr:∀A W,T A W->F P ops Q S late r A W)(hl:(∀A W,T A W->F P ops Q S late r A W)->F P ops Q S late l a w):F P ops Q S late l a w:=hl hr
end
end
section
open Go.RowKit
section
variable {P:θ}
structure OneC (P:θ) (ty:q):Prop where
 agg:∀w,(isAgg ty).run P w=.ok false w
 size:∀w,(sizeOf ty).run P w=.ok 1 w
variable{f:υ->Value}{g:C->Value}{o:O}{t:q}{v:Value}
theorem aT(ty)(x)(ho:o.op=.load ty x){b k N cap}(T:OneC P ty)(hx:f x=γ (D ⟨b,k,none⟩)){w}(hm:Vh t w b N cap g)(hn:k<N)(hv:g k=v):(L f o).run P w=.ok (.value v) w:=by have hc:=hm.cell hn;unfold L;simp only[ho,hx,Instr.loadAt,φ,loadVar,Aq,Bo,Bb,T.agg];go_simp
variable{K:J->E->Prop}{Q:ξ->J->E->Prop}{a:J}
theorem iO(w)(ty)(x y)(ho:o.op=.store ty x y){b k N cap}(T:OneC P ty)(hx:a.eval x=γ (D ⟨b,k,none⟩))(hy:a.eval y=v)(hm:Vh t w b N cap g)(hn:k<N)(h1:v.oneCell'=true)(h2:v.cells=#[v])(hd:o.dst=none)(h:∀w',Vh t w' b N cap (stW g k v)->Kept b w w'->w'.heap.size=w.heap.size->K a w'):X P o a w K Q:=by
 refine⟨?_⟩;have d:(storeVar ty ⟨b,k,none⟩ v).run P w=.ok () (w.setCell ⟨b,k,none⟩ v):=by
  have c:(store ((⟨b,k,none⟩:ν).add 0) v).run P w=.ok () (w.setCell ⟨b,k,none⟩ v):=by rw[kC,Nat.add_zero,run_store P w _ _ _ h1,hm.cell hn];simp[hm.free]
  unfold storeVar;simp only[h2,Aq,T.size,Bb];simp[storeCells,c]
 unfold Oper.wp L;simp only[ho,hx,hy,Instr.storeAt,φ,Aq,Bo,Bb,d];show K (a.put o.dst ζ) _;rw[hd];exact (h _ (hm.set k v) (bN w b k v) Mt)
variable{n:C}
theorem bB(s e)(x y)(ho:o.op=.indexAddr s x y){len}(hu:P.underlying s=D (.array len e))(hs:∀w,(sizeOf e).run P w=.ok n w){b off i:C}{z}(hx:f x=γ (D ⟨b,off,none⟩))(hy:f y=G .i64 z)(hz:z=(i))(hi:i<len)(w):(L f o).run P w=.ok (.value (γ (D ⟨b,off+i*n,none⟩))) w:=by subst hz;have h2:(i:Int)<(len:Int):=Yo;unfold L;simp only[ho,hx,hy,Instr.indexAt,asIntOf,φ,Aq,Bo,Bb,Fq hu,kC];simp[h2,hs]
variable{f:C->Value}
theorem xZ(w)(ty)(x)(ho:o.op=.box ty x)(hx:a.eval x=aX f 0 n)(hn:n<=maxLen)(h:∀w',Vh ty w' w.heap.size n n f->Below w.heap.size w w'->w'.heap.size=w.heap.size+1->K (a.put o.dst (γ (D ⟨w.heap.size,0,none⟩))) w'):X P o a w K Q:=by refine⟨?_⟩;unfold Oper.wp L;simp only[ho,hx,Instr.box,newVar,newRow,newObj,aX,Value.cells,Ah];exact (h (w.alloc (ι ((ε n).map f).toArray ty)) (Cf f n hn Nj) (bU _ _) (fA _ _))
theorem kF(w)(ty)(ho:o.op=.alloc ty)(hz:∀w,(zeroValue ty).run P w=.ok (aX f 0 n) w)(hn:n<=maxLen)(h:∀w',Vh ty w' w.heap.size n n f->Below w.heap.size w w'->w'.heap.size=w.heap.size+1->K (a.put o.dst (γ (D ⟨w.heap.size,0,none⟩))) w'):X P o a w K Q:=by refine⟨?_⟩;unfold Oper.wp L;simp only[ho,Instr.alloc,newVar,newRow,newObj,Aq,hz,Bb,aX,Value.cells,Ah];exact (h (w.alloc (ι ((ε n).map f).toArray ty)) (Cf f n hn Nj) (bU _ _) (fA _ _))
end
end
section
open Go
def aV(A:J):β (Nat×Value)->J
 |[]=>A
 |(k,v)::l=>(aV A l).put (D k) v
def KR(k:C):β (Nat×Value)->χ Value
 |[]=>none
 |(j,v)::l=>cond (Nat.beq j k) (D v) (KR k l)
theorem szL(A)(l):(aV A l).tmps.size=A.tmps.size:=by
 induction l with
 |nil=>rfl
 |cons p l ih=>exact (aCg _ _ _).trans ih
theorem aTB(A)(l):(aV A l).defers=A.defers:=by
 induction l with
 |nil=>rfl
 |cons p l ih=>exact ih
variable{A:J}{k:C}{l:β (Nat×Value)}{v:Value}
theorem ZK(h:KR k l=D v)(hk:k<A.tmps.size):(aV A l).eval (.tmp k)=v:=by
 induction l with
 |nil=>cases h
 |cons p l ih=>
  obtain⟨j,u⟩:=p;show ((aV A l).put (D j) u).eval (.tmp k)=v;unfold KR at h;cases e:Nat.beq j k with
  |true=>rw[e] at h;obtain rfl:j=k:=Nat.eq_of_beq_eq_true e;rw[UJ _ _ _ (by rw[szL];exact hk)];exact Dp h
  |false=>rw[e] at h;rw[F5 _ _ (Nat.ne_of_beq_eq_false e)];exact ih h
theorem F6(h:KR k l=none)(hb:A.eval (.tmp k)=v):(aV A l).eval (.tmp k)=v:=by
 induction l with
 |nil=>exact hb
 |cons p l ih=>
  obtain⟨j,u⟩:=p;show ((aV A l).put (D j) u).eval (.tmp k)=v;unfold KR at h;cases e:Nat.beq j k with
  |true=>rw[e] at h;cases h
  |false=>rw[e] at h;rw[F5 _ _ (Nat.ne_of_beq_eq_false e)];exact ih h
section
variable {P:θ} {ops:ψ O} {Q:ξ->J->E->Prop} {A:J} {l:β (Nat×Value)} {w:E} {rest:β O} {o:O} {d:C} {v:Value}
theorem aG{l'}(h:LstI P ops Q l' (aV A []) w):LstI P ops Q l' A w:=h
theorem aAW(hd:o.dst=D d)(hw:H o (I ops (aV A l).tmps)=true)(hy:(L (aV A l).eval o).run P w=.ok (.value v) w)(h:LstI P ops Q rest (aV A ((d,v)::l)) w):LstI P ops Q (o::rest) (aV A l) w:=
 aTG hw hy (by rw[hd];exact h)
theorem aHB(hd:o.dst=D d)(hw:H o (I ops (aV A l).tmps)=false)(h:LstI P ops Q rest (aV A ((d,ζ)::l)) w):LstI P ops Q (o::rest) (aV A l) w:=
 aRP hw (by rw[hd];exact h)
theorem bI(hd:o.dst=D d)(hw:H o (I ops (aV A l).tmps)=true)(h:∀K,(∀v w',LstI P ops Q rest (aV A ((d,v)::l)) w'->K ((aV A l).put o.dst v) w')->X P o (aV A l) w K Q):LstI P ops Q (o::rest) (aV A l) w:=
 aRO hw (λK hK=>h K (λv _ h1=>by rw[hd];exact hK _ _ h1))
theorem lN(hw:H o (I ops (aV A l).tmps)=true)(h:∀K,(∀w',LstI P ops Q rest (aV A l) w'->K (aV A l) w')->X P o (aV A l) w K Q):LstI P ops Q (o::rest) (aV A l) w:=
 aRO hw (λK hK=>h K (λ_ h1=>hK _ _ h1))
theorem Ye(h:KR k l=D v)(hk:k<A.tmps.size:=by omega):(aV A l).eval (.tmp k)=v:=ZK h hk
theorem Yv{p:Prop}(h:p:=by first|exact ZK rfl Yo|exact F6 rfl (by assumption)|exact aL _ _):p:=h
theorem Yq(hy:(L (aV A l).eval o).run P w=.ok (.value v) w)(h:LstI P ops Q rest (aV A ((d,v)::l)) w)(hd:o.dst=D d:=by rfl)(hw:H o (I ops (aV A l).tmps)=true:=by first|exact fE rfl|exact dW rfl rfl rfl Yv):LstI P ops Q (o::rest) (aV A l) w:=aAW hd hw hy h
theorem Yp(h:LstI P ops Q rest (aV A ((d,v)::l)) w)(hd:o.dst=D d:=by rfl)(hw:H o (I ops (aV A l).tmps)=true:=by first|exact fE rfl|exact dW rfl rfl rfl Yv)(hy:(L (aV A l).eval o).run P w=.ok (.value v) w:=by first|exact fC _ rfl Yv _|exact mI _ rfl Yv _):LstI P ops Q (o::rest) (aV A l) w:=aAW hd hw hy h
theorem Yu(h:LstI P ops Q rest (aV A ((d,ζ)::l)) w)(hd:o.dst=D d:=by rfl)(hw:H o (I ops (aV A l).tmps)=false:=by exact kE rfl rfl rfl Yv Yc):LstI P ops Q (o::rest) (aV A l) w:=aHB hd hw h
theorem Yx(h:LstI P ops Q rest (aV A ((d,v)::l)) w)(hd:o.dst=D d:=by rfl)(hw:H o (I ops (aV A l).tmps)=true:=by first|exact fE rfl|exact dW rfl rfl rfl Yv)(hy:(L (aV A l).eval o).run P w=.ok (.value v) w:=by first|exact fC _ rfl Yv _|exact mI _ rfl Yv _|exact IE rfl Yv _|exact aAC rfl Yv _|exact aRt rfl Yv _|exact QJ rfl Yv _|exact IG rfl Yv _|exact aGV rfl Yv _|exact aAD rfl Yv _|exact aRu rfl Yv _|exact aRv rfl Yv _|exact aRw rfl Yv _|exact aEb rfl Yv _|exact aRp rfl Yv _|exact aRq rfl Yv _|exact aRr rfl Yv _|exact aRs rfl Yv _|exact aAE rfl Yv _|exact aGW rfl Yv _|exact aGX rfl Yv _|exact aRD rfl Yv _|exact aRE rfl Yv _|exact aRF rfl Yv _|exact aGY rfl Yv _|exact aGZ rfl Yv _|exact aHa rfl Yv _|exact aHb rfl Yv _|exact aHc rfl Yv _|exact aHd rfl Yv _|exact aHe rfl Yv _|exact aRz rfl Yv _|exact aRA rfl Yv _|exact aRB rfl Yv _|exact aRC rfl Yv _|exact fldRp0 rfl Yv _|exact fldRp3 rfl Yv _|exact aT _ _ rfl iI Yv (by assumption) Yc rfl|exact aT _ _ rfl sJ Yv (by assumption) Yc rfl|exact aT _ _ rfl lU Yv (by assumption) Yc rfl|exact aT _ _ rfl aFq Yv (by assumption) Yc rfl|exact aT _ _ rfl aSf Yv (by assumption) Yc rfl|exact aT _ _ rfl aTI Yv (by assumption) Yc rfl|exact aT _ _ rfl oneFn Yv (by assumption) Yc rfl|exact bE _ _ rfl bJ Yv (by assumption) Yc|exact bE _ _ rfl fM Yv (by assumption) Yc|exact bE _ _ rfl gJ Yv (by assumption) Yc|exact bE _ _ rfl iM Yv (by assumption) Yc|exact bE _ _ rfl iL Yv (by assumption) Yc|exact bE _ _ rfl aAY Yv (by assumption) Yc|exact bE _ _ rfl aAX Yv (by assumption) Yc|exact bE _ _ rfl rU Yv (by assumption) Yc|exact bE _ _ rfl QY Yv (by assumption) Yc|exact bE _ _ rfl QZ Yv (by assumption) Yc|exact bE _ _ rfl aON Yv (by assumption) Yc|exact nA _ _ rfl Yv Yv Yo Yo _|exact aLs _ rfl Yv _|exact nD _ rfl Yv _|exact nE _ rfl Yv _|exact tZ _ _ rfl Yv _|exact dH (b:=true) _ _ rfl Yv Yv (Xt Yo) _|exact dH (b:=false) _ _ rfl Yv Yv (Xf Yo) _):LstI P ops Q (o::rest) (aV A l) w:=aAW hd hw hy h
variable{f:C->Value}{n:C}{ty:q}
theorem Za(hz:∀w,(zeroValue ty).run P w=.ok (aX f 0 n) w)(h:∀w',Vh ty w' w.heap.size n n f->Go.RowKit.Below w.heap.size w w'->w'.heap.size=w.heap.size+1->LstI P ops Q rest (aV A ((d,γ (D ⟨w.heap.size,0,none⟩))::l)) w')(ho:o.op=.alloc ty:=by rfl)(hd:o.dst=D d:=by rfl)(hn:n<=maxLen:=by exact Xu rfl)(hw:H o (I ops (aV A l).tmps)=true:=by exact fE rfl):LstI P ops Q (o::rest) (aV A l) w:=bI hd hw (λ_ hK=>kF w ty ho hz hn (λw' m k z=>hK _ _ (h w' m k z)))
variable{x:υ}
theorem Zb(h:∀w',Vh ty w' w.heap.size n n f->Go.RowKit.Below w.heap.size w w'->w'.heap.size=w.heap.size+1->LstI P ops Q rest (aV A ((d,γ (D ⟨w.heap.size,0,none⟩))::l)) w')(ho:o.op=.box ty x:=by rfl)(hd:o.dst=D d:=by rfl)(hx:(aV A l).eval x=aX f 0 n:=by exact Yv)(hn:n<=maxLen:=by exact Xu rfl)(hw:H o (I ops (aV A l).tmps)=true:=by exact fE rfl):LstI P ops Q (o::rest) (aV A l) w:=bI hd hw (λ_ hK=>xZ w ty x ho hx hn (λw' m k z=>hK _ _ (h w' m k z)))
theorem Zs{t:q}{b N cap:C}{g:C->Value}{y:υ}(T:Many P ty n)(hm:Vh t w b N cap g)(h1:∀j,j<n->(f j).oneCell'=true)(h:∀w',Vh t w' b N cap (stP g k n f)->Kept b w w'->w'.heap.size=w.heap.size->LstI P ops Q rest (aV A l) w')(ho:o.op=.store ty x y:=by rfl)(hd:o.dst=none:=by rfl)(hx:(aV A l).eval x=γ (D ⟨b,k,none⟩):=by exact Yv)(hy:(aV A l).eval y=aX f 0 n:=by exact Yv)(hn:k+n<=N:=by first|decide|omega)(hw:H o (I ops (aV A l).tmps)=true:=by exact fE rfl):LstI P ops Q (o::rest) (aV A l) w:=lN hw (λ_ hK=>aW w ty x y ho T hx hy hm hn h1 hd (λw' m k z=>hK _ (h w' m k z)))
variable {S:E->Prop} {late:C->σ} {i:C} {r:PlanJ}
theorem BB{p}(h:F P ops Q S late p (aV A []) w):F P ops Q S late p A w:=h
theorem dC(ho:ops[i]?=D o)(hd:o.dst=D d)(hQ:∀c a w,Q (.panic c) (a.put (D d) v) w->Q (.panic c) a w)(hw:H o (I ops (aV A l).tmps)=true)(hy:∀w,(L (aV A l).eval o).run P w=.ok (.value v) w)(h:F P ops Q S late r (aV A ((d,v)::l)) w):F P ops Q S late (.mv i r) (aV A l) w:=
 aTn ho (by rw[hd];exact hQ) hw hy (by rw[hd];exact h)
theorem oD(ho:ops[i]?=D o)(hd:o.dst=D d)(hQ:∀c a w,Q (.panic c) (a.put (D d) v) w->Q (.panic c) a w)(hw:H o (I ops (aV A l).tmps)=true)(hS:S w)(hy:∀w,S w->(L (aV A l).eval o).run P w=.ok (.value v) w)(h:F P ops Q S late r (aV A ((d,v)::l)) w):F P ops Q S late (.rd i r) (aV A l) w:=
 aPF ho (by rw[hd];exact hQ) hw hS hy (by rw[hd];exact h)
theorem QR(ho:ops[i]?=D o)(hd:o.dst=D d)(hQ:∀c a w,Q (.panic c) (a.put (D d) ζ) w->Q (.panic c) a w)(hw:H o (I ops (aV A l).tmps)=false)(h:F P ops Q S late r (aV A ((d,ζ)::l)) w):F P ops Q S late (.mv i r) (aV A l) w:=
 aPG ho (by rw[hd];exact hQ) hw (by rw[hd];exact h)
theorem dA(ho:ops[i]?=D o)(hd:o.dst=D d)(hw:H o (I ops (aV A l).tmps)=true)(h:∀K,(∀v w',(late i=false->S w->S w')->F P ops Q S late r (aV A ((d,v)::l)) w'->K ((aV A l).put o.dst v) w')->X P o (aV A l) w K Q):F P ops Q S late (.go i r) (aV A l) w:=
 aNl ho hw (λK hK=>h K (λv _ h1 h2=>by rw[hd];exact hK _ _ h1 h2))
theorem dK(ho:ops[i]?=D o)(hw:H o (I ops (aV A l).tmps)=true)(h:∀K,(∀w',(late i=false->S w->S w')->F P ops Q S late r (aV A l) w'->K (aV A l) w')->X P o (aV A l) w K Q):F P ops Q S late (.go i r) (aV A l) w:=
 aNl ho hw (λK hK=>h K (λ_ h1 h2=>hK _ _ h1 h2))
theorem Yk(ho:ops[i]?=D o)(hy:∀w,(L (aV A l).eval o).run P w=.ok (.value v) w)(h:F P ops Q S late r (aV A ((d,v)::l)) w)(hd:o.dst=D d:=by rfl)(hQ:∀c a w,Q (.panic c) (a.put (D d) v) w->Q (.panic c) a w:=by exact λ_ _ _ h=>h)(hw:H o (I ops (aV A l).tmps)=true:=by first|exact fE rfl|exact dW rfl rfl rfl Yv):F P ops Q S late (.mv i r) (aV A l) w:=dC ho hd hQ hw hy h
theorem Yj(h:F P ops Q S late r (aV A ((d,v)::l)) w)(ho:ops[i]?=D o:=by rfl)(hd:o.dst=D d:=by rfl)(hQ:∀c a w,Q (.panic c) (a.put (D d) v) w->Q (.panic c) a w:=by exact λ_ _ _ h=>h)(hw:H o (I ops (aV A l).tmps)=true:=by first|exact fE rfl|exact dW rfl rfl rfl Yv)(hy:∀w,(L (aV A l).eval o).run P w=.ok (.value v) w:=by first|exact λ_=>fC _ rfl Yv _|exact λ_=>mI _ rfl Yv _):F P ops Q S late (.mv i r) (aV A l) w:=dC ho hd hQ hw hy h
theorem Yr(ho:ops[i]?=D o)(hS:S w)(hy:∀w,S w->(L (aV A l).eval o).run P w=.ok (.value v) w)(h:F P ops Q S late r (aV A ((d,v)::l)) w)(hd:o.dst=D d:=by rfl)(hQ:∀c a w,Q (.panic c) (a.put (D d) v) w->Q (.panic c) a w:=by exact λ_ _ _ h=>h)(hw:H o (I ops (aV A l).tmps)=true:=by first|exact fE rfl|exact dW rfl rfl rfl Yv):F P ops Q S late (.rd i r) (aV A l) w:=oD ho hd hQ hw hS hy h
theorem KP{j}{r'}(h:F P ops Q S late (.go i r) (aV A l) w)(h':F P ops Q S late (.go j r') (aV A l) w):F P ops Q S late (.two i j r r') (aV A l) w:=⟨⟨h.out,h'.out⟩⟩
end
theorem Bg:type_of% @Many.of:=@Many.of
end
end Go.Proofs.YthimcecbgpamdaaGreatDoor
