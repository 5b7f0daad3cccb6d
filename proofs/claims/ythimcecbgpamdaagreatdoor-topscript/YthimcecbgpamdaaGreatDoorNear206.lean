import Derived.Test.YthimcecbgpamdaaGreatDoorRows
import Derived.HandedShaped
import Derived.ProofKit
import Derived.Stop.Joined
import Derived.WalkSpells
import Derived.Lib.Mul64
namespace Go.Proofs.YthimcecbgpamdaaGreatDoor
open Go
theorem Yg{p:Prop}(h:p:=by unfold execOp;rw[ho];dsimp only;rw[hx];go_simp):p:=h
theorem Yh{p:Prop}(h:p:=by go_simp):p:=h
theorem Yjq{p:Prop}(h:p:=by unfold execOp;rw[ho];dsimp only;rw[hx,hy];go_simp):p:=h
theorem Ykq{p:Prop}(h:p:=by unfold execOp;rw[ho];dsimp only;rw[hx];rfl):p:=h
theorem Xr(n:Nat):n<=n:=Nat.le_refl n
variable{p:Prop}
theorem Xt[Decidable p](h:p):decide p=true:=decide_eq_true h
theorem Xf[Decidable p](h:¬p):decide p=false:=decide_eq_false h
theorem Xu[Decidable p](h:decide p=true):p:=of_decide_eq_true h
theorem Xg[Decidable p](h:decide p=false):¬p:=of_decide_eq_false h
theorem Xz(n:Nat):0<=n:=Nat.zero_le n
theorem Yo(h:p:=by omega):p:=h
theorem Yw(h:p:=by exact cB rfl):p:=h
theorem Yn(h:p:=by exact λ_ _ _ h=>absurd h.1 (λe=>nomatch e)):p:=h
theorem Yc(h:p:=by decide):p:=h
theorem Yd(h:p:=by exact Xu rfl):p:=h
theorem Yl(h:p:=by kernel_rfl):p:=h
theorem Ym(h:p:=by unfold maxLen;omega):p:=h
theorem uC(h:p:=by simp only[Int.reducePow];omega):p:=h
theorem Yf(h:p:=by exact LJ rfl (by omega)):p:=h
theorem YA(h:p:=by exact (szL _ _).trans hs):p:=h
theorem YB(h:p:=by exact (aNs _ _).trans hd):p:=h
theorem YC(h:p:=by rw[Int.natCast_add];rfl):p:=h
theorem YD(h:p:=by exact λe=>by have e1:=(o4.lt _ e).1;have e2:=(o4.lt _ e).2;omega):p:=h
theorem Yb(h:p:=by exact vE rfl (by assumption)):p:=h
variable{conds:List PathCond}
theorem Q8{H:Type}{enc:TypeId×Value->H}{a:Assume}{C:Checked}{os:Os}{f:FuncId}{fn:Func}{s:ChangeSpec}{apart fresh handsOn again:Bool}{X:World->Prop}(hX:∀w w':World,w.heap=w'.heap->X w->X w')(own:ownKnob C.prog.godebug=none)(started:os.Started)(noInit:C.prog.inits.idxOf? f=none)(hfn:C.prog.funcs[f]?=some fn)(witness:∃(w:World) (tape:Tape) (i:Input),w.os=os/\(w.forCall tape i).Shaped C.prog/\i.vars=[]/\Input.okWide C.prog (w.forCall tape i) .any w.heap.size f i/\((s.pre enc C.prog fn conds apart (w.forCall tape i).memory i.args/\X (w.forCall tape i).memory)/\sizedMet enc C.prog fn (OpenSpec.ofChange s) apart (w.forCall tape i).memory i.args)/\a.holds C.prog (lone (Frame.enter C.prog f i.args .normal) [] (w.forCall tape i)))(contract:∀(W:World) (base:Nat) (args:Array Value) (ds gs:List (DataW H)) (before:List MemPlace),(∀(j:Nat) t v,fn.params[j]?=some t->args[j]?=some v->Value.okWide C.prog W .any base t v)->DataW.Whole enc C.prog fn.params.toList s.vars apart W args.toList ds gs before->(DataW.weightsEach C.prog (fn.params.toList++s.plain.varTypes C.prog) (ds++gs)).all (· <=reachBytes)=true->X W->W.ShapedOpen C.prog->Calls C.prog f args W λe W'=>∃v,e=.returned v/\s.post enc C.prog fn apart fresh handsOn again W args v W'):ReturnsInHanded a C os f .any (λw args=>(s.pre enc C.prog fn conds apart w args/\X w)/\sizedMet enc C.prog fn (OpenSpec.ofChange s) apart w args) (s.post enc C.prog fn apart fresh handsOn again):=by
 refine returnsInHanded_of_calls own started noInit witness ?_;intro w tape i _ hsh _ hok hpre _;obtain⟨_,_,_,g,hg,_,_,_,_,hval⟩:=hok;obtain rfl:g=fn:=Option.some.inj (hg.symm.trans hfn);obtain⟨⟨⟨ds,gs,before,hw,_⟩,hx⟩,hz⟩:=hpre;refine (contract (w.forCall tape i) w.heap.size i.args ds gs before hval (DataW.Whole.of_heap (w':=w.forCall tape i) (by rfl) hw) (hz.weights hw) (hX _ _ (by rfl) hx) hsh).mono λe W' ⟨v,he,hp⟩=>?_
 subst he;exact ChangeSpec.post_blind hp
end Go.Proofs.YthimcecbgpamdaaGreatDoor
namespace Go.Proofs.YthimcecbgpamdaaGreatDoor
open Go.RowKit
def R64(a:Int):Prop:= -9223372036854775808<=a/\a<=9223372036854775807
theorem R64.of_wf{x:Int}(h:(Lit.int .i64 x).wf=true):R64 x:=by
 simp[Lit.wf,IntKind.min,IntKind.max,IntKind.signed,IntKind.bits] at h;exact⟨Yo,Yo⟩
def dO(z:Int):Int:=if z< -9223372036854775808 then -9223372036854775808 else if 9223372036854775807<z then 9223372036854775807 else z
def fP(z:Int):Bool:=decide (z< -9223372036854775808)||decide (9223372036854775807<z)
theorem uW(z:Int):R64 (dO z):=by
 unfold dO R64;split
 .omega
 .split<;>omega
variable{z:Int}
theorem wS(h:R64 z):dO z=z:=by
 unfold dO;obtain⟨h1,h2⟩:=h;rw[if_neg Yo,if_neg Yo]
theorem zD(h:R64 z):fP z=false:=by
 unfold fP;obtain⟨h1,h2⟩:=h;rw[Xf Yo,Xf Yo];rfl
theorem wT(h:9223372036854775807<z):dO z=9223372036854775807:=by
 unfold dO;rw[if_neg Yo,if_pos h]
theorem zF(h:9223372036854775807<z):fP z=true:=by
 unfold fP;rw[Xt h];simp
theorem sI(h:z< -9223372036854775808):dO z= -9223372036854775808:=by
 unfold dO;rw[if_pos h]
theorem uH(h:z< -9223372036854775808):fP z=true:=by
 unfold fP;rw[Xt h];rfl
theorem U2(v:BitVec 64):IntKind.i64.wrap (v.toNat:Int)<0↔v.msb=true:=by
 rw[BitVec.msb_eq_decide,IntKind.wrap_i64,decide_eq_true_eq];have:=v.isLt;omega
theorem xE(x:Int)(h:R64 x):(BitVec.ofInt 64 x).msb=decide (x<0):=by
 obtain⟨h1,h2⟩:=h;rw[BitVec.msb_eq_decide,BitVec.toNat_ofInt];by_cases hx:x<0
 .rw[Xt hx,decide_eq_true_eq];omega
 .rw[Xf hx,decide_eq_false_iff_not];omega
theorem mP(x y:Int)(hx:R64 x)(hy:R64 y):bits .and .i64 x y<0↔(x<0/\y<0):=by
 show IntKind.i64.wrap ((BitVec.ofInt 64 x &&& BitVec.ofInt 64 y).toNat:Int)<0↔_
 rw[U2,BitVec.msb_and,xE x hx,xE y hy];simp
theorem iX(x y:Int)(hx:R64 x)(hy:R64 y):bits .xor .i64 x y<0↔¬(x<0↔y<0):=by
 show IntKind.i64.wrap ((BitVec.ofInt 64 x^^^BitVec.ofInt 64 y).toNat:Int)<0↔_
 rw[U2,BitVec.msb_xor,xE x hx,xE y hy];by_cases a:x<0<;>by_cases b:y<0<;>simp[a,b]
theorem YN(n:Int):R64 (IntKind.i64.wrap n):=by
 rw[IntKind.wrap_i64];unfold R64;omega
theorem kJ(x y:Int):R64 (bits .xor .i64 x y):=by
 show R64 (IntKind.i64.wrap ((BitVec.ofInt 64 x^^^BitVec.ofInt 64 y).toNat:Int))
 exact YN _
theorem BZ(n:Int):R64 (wrap64 n):=by
 unfold wrap64 R64;omega
theorem aJW(a b:Int)(ha:R64 a)(hb:R64 b)(h:R64 (a+b)):¬bits .and .i64 (bits .xor .i64 a (a+b)) (bits .xor .i64 b (a+b))<0:=by grind [mP,kJ,iX]
theorem aGC(a b:Int)(ha:R64 a)(hb:R64 b)(h:¬R64 (a+b)):bits .and .i64 (bits .xor .i64 a (wrap64 (a+b))) (bits .xor .i64 b (wrap64 (a+b)))<0:=by
 rw[mP _ _ (kJ _ _) (kJ _ _),iX _ _ ha (BZ _),iX _ _ hb (BZ _)];unfold wrap64;unfold R64 at*;omega
theorem aLO(a b:Int)(ha:R64 a)(hb:R64 b)(h:R64 (a-b)):¬bits .and .i64 (bits .xor .i64 a b) (bits .xor .i64 a (a-b))<0:=by grind [mP,kJ,iX]
theorem aJc(a b:Int)(ha:R64 a)(hb:R64 b)(h:¬R64 (a-b)):bits .and .i64 (bits .xor .i64 a b) (bits .xor .i64 a (wrap64 (a-b)))<0:=by
 rw[mP _ _ (kJ _ _) (kJ _ _),iX _ _ ha hb,iX _ _ ha (BZ _)];unfold wrap64;unfold R64 at*;omega
def absZ(a:Int):Int:=if a<0 then -a else a
variable{a:Int}
theorem nV(h:R64 a):0<=absZ a/\absZ a<=9223372036854775808:=by
 unfold absZ;unfold R64 at h;split<;>omega
def GM(a b:Int):Int:=(a*b+2147483648)/4294967296
def negZ(a b:Int):Bool:= !decide (a<0)==decide (b<0)
def iI(n:Bool)(m:Int):Int:=if n then -m else m
def halfZ(n:Bool):Int:=if n then 2147483647 else 2147483648
theorem aId(a b:Int):a*b=iI (negZ a b) (absZ a*absZ b):=by grind [iI,negZ,absZ]
theorem aDS(a b:Int):GM a b=iI (negZ a b) ((absZ a*absZ b+halfZ (negZ a b))/4294967296):=by grind [GM,iI,halfZ,aId]
theorem IM{b:Int}(ha:R64 a)(hb:R64 b):0<=absZ a*absZ b/\absZ a*absZ b<=85070591730234615865843651857942052864:=by
 obtain⟨a0,a1⟩:=nV ha;obtain⟨b0,b1⟩:=nV hb;refine⟨Int.mul_nonneg a0 b0,?_⟩;have:=Int.mul_le_mul a1 b1 b0 (by omega:(0:Int)<=9223372036854775808);omega
theorem aDC(n:Bool):0<=halfZ n/\halfZ n<=2147483648:=by cases n<;>decide
theorem aAR(x y:Int)(x0:0<=x)(x1:x<4294967296)(y0:0<=y)(y1:y<4294967296):bits .or .u64 (x*4294967296) y=x*4294967296+y:=by
 obtain⟨x,rfl⟩:=Int.eq_ofNat_of_zero_le x0;obtain⟨y,rfl⟩:=Int.eq_ofNat_of_zero_le y0;have h:=u64_or_nat (x*4294967296) y Yo Yo;rw[nat_join 32 (x*4294967296) y Yo Yo] at h;have e:(x:Int)*4294967296=((x*4294967296:Nat):Int):=Yo;rw[e,h];omega
theorem aAJ(x:Int)(x0:0<=x)(x1:x<18446744073709551616):bits .and .u64 x 4294967295=x%4294967296:=by
 obtain⟨x,rfl⟩:=Int.eq_ofNat_of_zero_le x0;have h:=u64_and_nat x 4294967295 Yo Yo;rw[show x &&& 4294967295=x%4294967296 from Nat.and_two_pow_sub_one_eq_mod x 32] at h;refine (show bits .and .u64 (x:Int) 4294967295=_ from h).trans ?_;omega
theorem aDT(p h:Int)(_p0:0<=p)(_h0:0<=h)(ht:((p/18446744073709551616+(p%18446744073709551616+h)/18446744073709551616)/4294967296!=0)=false):bits .or .u64 (IntKind.u64.wrap ((p/18446744073709551616+(p%18446744073709551616+h)/18446744073709551616)*4294967296)) ((p+h)%18446744073709551616/4294967296)=(p+h)/4294967296/\(p+h)/4294967296<18446744073709551616:=by
 have e:(p/18446744073709551616+(p%18446744073709551616+h)/18446744073709551616)/4294967296=0:=by simpa using ht
 have e1:p/18446744073709551616+(p%18446744073709551616+h)/18446744073709551616=(p+h)/18446744073709551616:=Yo;rw[e1] at e ⊢;have e2:IntKind.u64.wrap ((p+h)/18446744073709551616*4294967296)=(p+h)/18446744073709551616*4294967296:=by rw[IntKind.wrap_u64];omega
 rw[e2,aAR _ _ Yo Yo Yo Yo];omega
theorem aDU(p h:Int)(_p0:0<=p)(_h0:0<=h)(ht:((p/18446744073709551616+(p%18446744073709551616+h)/18446744073709551616)/4294967296!=0)=true):18446744073709551616<=(p+h)/4294967296:=by grind
def L9(a b:Int):Int:=(2*(iI (decide (b<0)) a*4294967296)+absZ b)/(2*absZ b)
def qW(n:Bool)(q r d:Int):Int:=if d-r<r\/(r=d-r/\n=false) then q+1 else q
variable{q:Int}
theorem yJ{x y:Int}(hy:0<y)(h1:y*q<=x)(h2:x<y*q+y):x/y=q:=by
 have a:q<=x/y:=by rw[Int.le_ediv_iff_mul_le hy,Int.mul_comm];exact h1
 have b:x/y<q+1:=by rw[Int.ediv_lt_iff_lt_mul hy,Int.mul_comm,Int.mul_add];omega
 omega
theorem aDi(a b q r:Int)(hb:b≠0)(h:absZ a*4294967296=absZ b*q+r)(h0:0<=r)(h1:r<absZ b):L9 a b=iI (negZ a b) (qW (negZ a b) q r (absZ b)):=by
 have hd:0<absZ b:=by unfold absZ;split<;>omega
 have hs:iI (decide (b<0)) a=iI (negZ a b) (absZ a):=by
  unfold iI negZ absZ;by_cases ha:a<0<;>by_cases hb:b<0<;>simp[ha,hb]
 unfold L9;rw[hs];generalize absZ b=d at*;generalize absZ a=n at*;have e:∀k:Int,2*d*(q+k)=2*(d*q)+2*(d*k):=by intro k;rw[Int.mul_assoc,Int.mul_add,Int.mul_add]
 have e1:=e 1;have e0:=e 0;have f1:2*d* -(q+1)= -(2*d*(q+1)):=Int.mul_neg _ _;have f0:2*d* -(q+0)= -(2*d*(q+0)):=Int.mul_neg _ _;simp only[Int.add_zero,Int.mul_zero,Int.mul_one] at e0 e1 f0
 cases negZ a b
 .show (2*(n*4294967296)+d)/(2*d)=qW false q r d
  unfold qW;by_cases c:d-r<r\/(r=d-r/\(false:Bool)=false)
  .rw[if_pos c];simp at c;exact yJ Yo Yo Yo
  .rw[if_neg c];simp at c;exact yJ Yo Yo Yo
 .show (2*(-n*4294967296)+d)/(2*d)= -(qW true q r d)
  unfold qW;by_cases c:d-r<r\/(r=d-r/\(true:Bool)=false)
  .rw[if_pos c];simp at c;exact yJ Yo Yo Yo
  .rw[if_neg c];simp at c;exact yJ Yo Yo Yo
def yB(u u1 v1 v0 q rhat:Int):Prop:=
 0<=q/\q<=4294967297/\0<=rhat/\q*v1+rhat=u/\(u*4294967296+u1)<(v1*4294967296+v0)*(q+1)
def yC(u u1 v1 v0 q:Int):Prop:=
 0<=q/\q<4294967296/\(v1*4294967296+v0)*q<=u*4294967296+u1/\u*4294967296+u1<(v1*4294967296+v0)*q+(v1*4294967296+v0)
variable{u1 v0 v1:Int}
theorem ZU{u:Int}(hu0:0<=u)(hu:u<v1*4294967296+v0)(hu1:u1<4294967296)(hv1:2147483648<=v1)(h0:0<=v0)(h1:v0<4294967296):yB u u1 v1 v0 (u/v1) (u-u/v1*v1):=by
 have hq0:0<=u/v1:=Int.ediv_nonneg hu0 Yo;have e:v1*(u/v1)+u%v1=u:=Int.mul_ediv_add_emod u v1;have m0:0<=u%v1:=Int.emod_nonneg _ Yo;have m1:u%v1<v1:=Int.emod_lt_of_pos _ Yo;have hq:u/v1<=4294967297:=by
  apply Int.le_of_lt_add_one;rw[Int.ediv_lt_iff_lt_mul Yo];omega
 have ec:u/v1*v1=v1*(u/v1):=Int.mul_comm _ _;refine⟨hq0,hq,Yo,Yo,?_⟩;have h2:v0*(u/v1+1)=v0*(u/v1)+v0:=by rw[Int.mul_add,Int.mul_one]
 have h3:0<=v0*(u/v1):=Int.mul_nonneg h0 hq0;have h4:(v1*4294967296+v0)*(u/v1+1)=v1*(u/v1)*4294967296+v1*4294967296+v0*(u/v1+1):=by
  rw[Int.add_mul,Int.mul_right_comm,Int.mul_add v1,Int.add_mul,Int.mul_one]
 omega
theorem AO:(v1*4294967296+v0)*q=q*v1*4294967296+q*v0:=by
 rw[Int.add_mul,Int.mul_right_comm,Int.mul_comm v1 q,Int.mul_comm v0 q]
variable{rhat:Int}
theorem JB{u:Int}(h:yB u u1 v1 v0 q rhat)(hu:u<v1*4294967296+v0)(hu10:0<=u1)(hu1:u1<4294967296)(hv1:2147483648<=v1)(h0:0<=v0)(ht:4294967296<=q\/4294967296*rhat+u1<q*v0):yB u u1 v1 v0 (q-1) (rhat+v1)/\1<=q:=by
 obtain⟨q0,q1,r0,e,hlt⟩:=h;have q2:1<=q:=by
  rcases ht with ht|ht
  .omega
  .rcases Int.lt_or_le 0 q with h|h
   .omega
   .have:q=0:=Yo;subst this;simp at ht;omega
 have e2:(q-1)*v1=q*v1-v1:=by rw[Int.sub_mul,Int.one_mul]
 refine⟨⟨Yo,Yo,Yo,Yo,?_⟩,q2⟩;have e3:q-1+1=q:=Yo;rw[e3,AO];rcases ht with ht|ht
 .have h5:(v1*4294967296+v0)*4294967296<=(v1*4294967296+v0)*q:=Int.mul_le_mul_of_nonneg_left ht Yo;rw[AO (q:=q)] at h5;omega
 .omega
theorem UB{u:Int}(h:yB u u1 v1 v0 q rhat)(hq:q<4294967296)(ht:q*v0<=4294967296*rhat+u1):yC u u1 v1 v0 q:=by
 obtain⟨q0,q1,r0,e,hlt⟩:=h;have e4:(v1*4294967296+v0)*(q+1)=(v1*4294967296+v0)*q+(v1*4294967296+v0):=by rw[Int.mul_add,Int.mul_one]
 refine⟨q0,hq,?_,Yo⟩;rw[AO];omega
theorem JA{u:Int}(h:yB u u1 v1 v0 q rhat)(hu:u<v1*4294967296+v0)(hu10:0<=u1)(hu1:u1<4294967296)(_hv1:2147483648<=v1)(h0:0<=v0)(h1:v0<4294967296)(hq:q<=4294967296)(hr:4294967296<=rhat):yC u u1 v1 v0 q:=by
 have hq':q<4294967296:=by
  obtain⟨q0,q1,r0,e,hlt⟩:=h;rcases Int.lt_or_le q 4294967296 with h|h
  .exact h
  .have:q=4294967296:=Yo;subst this;omega
 apply UB h hq';obtain⟨q0,q1,r0,e,hlt⟩:=h;have:=Int.mul_le_mul (show q<=4294967296 by omega) (show v0<=4294967295 by omega) h0 (by omega:(0:Int)<=4294967296);omega
variable{p:Prop}
theorem aB(h:p):Hid p:=h
theorem aA(h:Hid p):p:=h
def MU(n:Bool):Int:=if n then -9223372036854775808 else 9223372036854775807
theorem AP(n:Bool)(m:Int)(h:9223372036854775808<m):dO (iI n m)=MU n/\fP (iI n m)=true:=by
 cases n
 .exact⟨wT (z:=m) Yo,zF (z:=m) Yo⟩
 .exact⟨sI (z:= -m) Yo,uH (z:= -m) Yo⟩
theorem FW(n:Bool)(w:World):Calls Tryz.prog 293 #[.bool n] w λe w'=>e=.returned (.int .i64 (MU n))/\w'=w:=by
 cases n
 .go_enter Tryz.func293,Tryz.ntmps293
  go_wp2
  go_ret
  exact⟨rfl,rfl⟩
 .go_enter Tryz.func293,Tryz.ntmps293
  go_wp2
  go_ret
  exact⟨rfl,rfl⟩
theorem aGB(a b:Int)(ha:R64 a)(hb:R64 b)(w:World):Calls Tryz.prog 276 #[.int .i64 a,.int .i64 b] w λe w'=>e=.returned (.tuple #[.int .i64 (dO (a+b)),.bool (fP (a+b))])/\w'=w:=by
 by_cases h:R64 (a+b)
 .have t:=aJW a b ha hb h;have e1:=aB (wS h);have e2:=aB (zD h);obtain⟨a1,a2⟩:=ha;obtain⟨b1,b2⟩:=hb;obtain⟨h1,h2⟩:=h;go_enter Tryz.func276,Tryz.ntmps276
  go_wp2
  go_ret2
  exact⟨by rw[aA e1,aA e2];rfl,rfl⟩
 .have t:=aGC a b ha hb h;obtain⟨a1,a2⟩:=ha;obtain⟨b1,b2⟩:=hb;by_cases hn:a<0
  .have hlt:a+b< -9223372036854775808:=by unfold R64 at h;omega
   have e1:=aB (sI hlt);have e2:=aB (uH hlt);clear h hlt;go_enter Tryz.func276,Tryz.ntmps276
   go_wp2
   go_ret2
   exact⟨by rw[aA e1,aA e2];rfl,rfl⟩
  .have hlt:9223372036854775807<a+b:=by unfold R64 at h;omega
   have e1:=aB (wT hlt);have e2:=aB (zF hlt);clear h hlt;go_enter Tryz.func276,Tryz.ntmps276
   go_wp2
   go_ret2
   exact⟨by rw[aA e1,aA e2];rfl,rfl⟩
theorem aJb(a b:Int)(ha:R64 a)(hb:R64 b)(w:World):Calls Tryz.prog 275 #[.int .i64 a,.int .i64 b] w λe w'=>e=.returned (.tuple #[.int .i64 (dO (a-b)),.bool (fP (a-b))])/\w'=w:=by
 by_cases h:R64 (a-b)
 .have t:=aLO a b ha hb h;have e1:=aB (wS h);have e2:=aB (zD h);obtain⟨a1,a2⟩:=ha;obtain⟨b1,b2⟩:=hb;obtain⟨h1,h2⟩:=h;go_enter Tryz.func275,Tryz.ntmps275
  go_wp2
  go_ret2
  exact⟨by rw[aA e1,aA e2];rfl,rfl⟩
 .have t:=aJc a b ha hb h;obtain⟨a1,a2⟩:=ha;obtain⟨b1,b2⟩:=hb;by_cases hn:a<0
  .have hlt:a-b< -9223372036854775808:=by unfold R64 at h;omega
   have e1:=aB (sI hlt);have e2:=aB (uH hlt);clear h hlt;go_enter Tryz.func275,Tryz.ntmps275
   go_wp2
   go_ret2
   exact⟨by rw[aA e1,aA e2];rfl,rfl⟩
  .have hlt:9223372036854775807<a-b:=by unfold R64 at h;omega
   have e1:=aB (wT hlt);have e2:=aB (zF hlt);clear h hlt;go_enter Tryz.func275,Tryz.ntmps275
   go_wp2
   go_ret2
   exact⟨by rw[aA e1,aA e2];rfl,rfl⟩
theorem wH(a:Int)(ha:R64 a)(w:World):Calls Tryz.prog 27 #[.int .i64 a] w λe w'=>e=.returned (.int .u64 (absZ a))/\w'=w:=by
 obtain⟨a1,a2⟩:=ha;by_cases h:a<0
 .have e1:Hid (absZ a=IntKind.u64.wrap (-IntKind.u64.wrap a)):=by unfold absZ;rw[if_pos h];show -a=_;rw[IntKind.wrap_u64,IntKind.wrap_u64];omega
  go_enter Tryz.func27,Tryz.ntmps27
  go_wp2
  go_ret
  exact⟨by rw[aA e1];rfl,rfl⟩
 .have e1:Hid (absZ a=a):=by unfold absZ;rw[if_neg h];exact rfl
  go_enter Tryz.func27,Tryz.ntmps27
  go_wp2
  go_ret
  exact⟨by rw[aA e1];rfl,rfl⟩
theorem aDD(n:Bool)(w:World):Calls Tryz.prog 296 #[.bool n] w λe w'=>e=.returned (.int .u64 (halfZ n))/\w'=w:=by
 cases n
 .go_enter Tryz.func296,Tryz.ntmps296
  go_wp2
  go_ret
  exact⟨rfl,rfl⟩
 .go_enter Tryz.func296,Tryz.ntmps296
  go_wp2
  go_ret
  exact⟨rfl,rfl⟩
theorem pQ(n:Bool)(m:Int)(h0:0<=m)(h1:m<18446744073709551616)(w:World):Calls Tryz.prog 203 #[.bool n,.int .u64 m] w λe w'=>e=.returned (.tuple #[.int .i64 (dO (iI n m)),.bool (fP (iI n m))])/\w'=w:=by
 cases n
 .by_cases h:m<=9223372036854775807
  .have e1:Hid (dO (iI false m)=m):=wS (z:=m) ⟨Yo,h⟩;have e2:Hid (fP (iI false m)=false):=zD (z:=m) ⟨Yo,h⟩;go_enter Tryz.func203,Tryz.ntmps203
   go_wp2
   go_ret2
   exact⟨by rw[aA e1,aA e2];rfl,rfl⟩
  .have e1:Hid (dO (iI false m)=9223372036854775807):=wT (z:=m) Yo;have e2:Hid (fP (iI false m)=true):=zF (z:=m) Yo;go_enter Tryz.func203,Tryz.ntmps203
   go_wp2
   go_ret2
   exact⟨by rw[aA e1,aA e2];rfl,rfl⟩
 .by_cases h:m<=9223372036854775808
  .have e1:Hid (dO (iI true m)=wrap64 (IntKind.u64.wrap (-m))):=by show dO (-m)=_;rw[wS ⟨Yo,Yo⟩,IntKind.wrap_u64];unfold wrap64;omega
   have e2:Hid (fP (iI true m)=false):=zD (z:= -m) ⟨Yo,Yo⟩;go_enter Tryz.func203,Tryz.ntmps203
   go_wp2
   go_ret2
   exact⟨by rw[aA e1,aA e2];rfl,rfl⟩
  .have e1:Hid (dO (iI true m)= -9223372036854775808):=sI (z:= -m) Yo;have e2:Hid (fP (iI true m)=true):=uH (z:= -m) Yo;go_enter Tryz.func203,Tryz.ntmps203
   go_wp2
   go_ret2
   exact⟨by rw[aA e1,aA e2];rfl,rfl⟩
theorem add64_0(x y:Int)(hx:0<=x)(hy:0<=y)(w:World):(callFunc 295 #[.int .u64 x,.int .u64 y,.int .u64 0]).run Tryz.prog w=.ok (.value (.tuple #[.int .u64 ((x+y)%18446744073709551616),.int .u64 ((x+y)/18446744073709551616)])) w:=by
 obtain⟨x,rfl⟩:=Int.eq_ofNat_of_zero_le hx;obtain⟨y,rfl⟩:=Int.eq_ofNat_of_zero_le hy;rw[run_callFunc_extern Tryz.func295 Yl Yl Yl (e:=add64Entry) Yl,run_add64 x y 0 Yo Yo Yo Yo];simp only[Result.andThen]
 congr 5<;>omega
namespace M64
theorem maskN(a:Nat)(ha:a<18446744073709551616):bits .and .u64 (a:Int) 4294967295=((a%4294967296:Nat):Int):=by
 have h:=bits_and_u64_nat a 4294967295 ha Yo;have e:a &&& 4294967295=a%4294967296:=Nat.and_two_pow_sub_one_eq_mod a 32;rw[e] at h;exact h
theorem divN(a:Nat):(a:Int)/4294967296=((a/4294967296:Nat):Int):=Yo
theorem mulN(a b:Nat):(a:Int)*(b:Int)=((a*b:Nat):Int):=(Int.natCast_mul a b).symm
theorem addN(a b:Nat):(a:Int)+(b:Int)=((a+b:Nat):Int):=(Int.natCast_add a b).symm
theorem wrapN(a:Nat)(ha:a<18446744073709551616):IntKind.u64.wrap (a:Int)=(a:Int):=by rw[IntKind.wrap_u64];omega
theorem wrapM(a:Nat):IntKind.u64.wrap (a:Int)=((a%18446744073709551616:Nat):Int):=by rw[IntKind.wrap_u64];omega
end M64
set_option maxHeartbeats 1000000 in
theorem aAO(x y:Nat)(hx:x<18446744073709551616)(hy:y<18446744073709551616)(w:World):Calls Tryz.prog 294 #[.int .u64 x,.int .u64 y] w λe w'=>e=.returned (.tuple #[.int .u64 ((x*y/18446744073709551616:Nat):Int),.int .u64 ((x*y%18446744073709551616:Nat):Int)])/\w'=w:=by
 obtain⟨bd,bt,bw,hhi⟩:=Lib.mul64_hi x y hx hy;have ba:=Lib.half_mul_le (a:=x/4294967296) (b:=y/4294967296) Yo Yo;have bb:=Lib.half_mul_le (a:=x/4294967296) (b:=y%4294967296) Yo Yo;have bc:=Lib.half_mul_le (a:=x%4294967296) (b:=y/4294967296) Yo Yo;have ba':x/4294967296*(y/4294967296)<18446744073709551616:=Yo;have bb':x/4294967296*(y%4294967296)<18446744073709551616:=Yo;have bc':x%4294967296*(y/4294967296)<18446744073709551616:=Yo;have bh1:x/4294967296*(y/4294967296)+(x/4294967296*(y%4294967296)+x%4294967296*(y%4294967296)/4294967296)/4294967296<18446744073709551616:=Yo;have bh:x/4294967296*(y/4294967296)+(x/4294967296*(y%4294967296)+x%4294967296*(y%4294967296)/4294967296)/4294967296+((x/4294967296*(y%4294967296)+x%4294967296*(y%4294967296)/4294967296)%4294967296+x%4294967296*(y/4294967296))/4294967296<18446744073709551616:=Yo;have HH:=aB hhi;clear hhi;go_enter Tryz.func294,Tryz.ntmps294
 go_wp2
 simp only[M64.maskN x hx,M64.maskN y hy,M64.divN,M64.mulN,M64.addN,M64.wrapN _ bd,M64.wrapN _ bb',M64.wrapN _ bt,M64.maskN _ bt,M64.wrapN _ bc',M64.wrapN _ bw,M64.wrapN _ ba',M64.wrapN _ bh1,M64.wrapN _ bh,M64.wrapM (x*y)];rw[aA HH]
 go_ret2
 exact⟨rfl,rfl⟩
theorem aAN(x y:Int)(x0:0<=x)(x1:x<18446744073709551616)(y0:0<=y)(y1:y<18446744073709551616)(w:World):Calls Tryz.prog 294 #[.int .u64 x,.int .u64 y] w λe w'=>e=.returned (.tuple #[.int .u64 (x*y/18446744073709551616),.int .u64 (x*y%18446744073709551616)])/\w'=w:=by
 obtain⟨x,rfl⟩:=Int.eq_ofNat_of_zero_le x0;obtain⟨y,rfl⟩:=Int.eq_ofNat_of_zero_le y0;have h:=aAO x y Yo Yo w;rw[Int.natCast_ediv,Int.natCast_emod,Int.natCast_mul] at h;exact h
end Go.Proofs.YthimcecbgpamdaaGreatDoor
