import Derived.Test.YtdhblehhgpdpdacGreatRows
import Derived.Test.YtdhblehhgpdpdacGreatFixPlain
import Derived.WalkSpells
import Derived.Lib.Mul64
namespace Go.Proofs.YtdhblehhgpdpdacGreat
open Go.RowKit
theorem aA{p:Prop}(h:p):Hid p:=h
theorem unhide{p:Prop}(h:Hid p):p:=h
def aEF(n:Bool):Int:=if n then -9223372036854775808 else 9223372036854775807
theorem aBs(n:Bool)(m:Int)(h:9223372036854775808<m):gD (jY n m)=aEF n∧jH (jY n m)=true:=by
 cases n
 ·exact⟨wY (z:=m) Yo,zI (z:=m) Yo⟩
 ·exact⟨sQ (z:= -m) Yo,uJ (z:= -m) Yo⟩
theorem aCi(n:Bool)(w:World):Calls Tryz.prog 143 #[.bool n] w λe w'=>e=.returned (.int .i64 (aEF n))∧w'=w:=by
 cases n
 ·go_enter Tryz.func143,Tryz.ntmps143
  go_wp2
  go_ret
  exact⟨rfl,rfl⟩
 ·go_enter Tryz.func143,Tryz.ntmps143
  go_wp2
  go_ret
  exact⟨rfl,rfl⟩
theorem aON (a b : Int) (ha : R64 a) (hb : R64 b) (w : World) :
  Calls Tryz.prog 135 #[.int .i64 a,.int .i64 b] w λe w'=>e=.returned (.tuple #[.int .i64 (gD (a+b)),.bool (jH (a+b))])∧w'=w:=by
 by_cases h:R64 (a+b)
 ·have t:=aSb a b ha hb h
  have e1:=aA (wT h)
  have e2:=aA (zM h)
  obtain⟨a1,a2⟩:=ha;obtain⟨b1,b2⟩:=hb;obtain⟨h1,h2⟩:=h
  go_enter Tryz.func135,Tryz.ntmps135
  go_wp2
  go_ret2
  exact⟨by rw[unhide e1,unhide e2];rfl,rfl⟩
 ·have t:=aOC a b ha hb h
  obtain⟨a1,a2⟩:=ha;obtain⟨b1,b2⟩:=hb
  by_cases hn:a<0
  ·have hlt:a+b< -9223372036854775808:=by unfold R64 at h;omega
   have e1:=aA (sQ hlt)
   have e2:=aA (uJ hlt)
   clear h hlt
   go_enter Tryz.func135,Tryz.ntmps135
   go_wp2
   go_ret2
   exact⟨by rw[unhide e1,unhide e2];rfl,rfl⟩
  ·have hlt:9223372036854775807<a+b:=by unfold R64 at h;omega
   have e1:=aA (wY hlt)
   have e2:=aA (zI hlt)
   clear h hlt
   go_enter Tryz.func135,Tryz.ntmps135
   go_wp2
   go_ret2
   exact⟨by rw[unhide e1,unhide e2];rfl,rfl⟩
theorem aPz (a b : Int) (ha : R64 a) (hb : R64 b) (w : World) :
  Calls Tryz.prog 134 #[.int .i64 a,.int .i64 b] w λe w'=>e=.returned (.tuple #[.int .i64 (gD (a-b)),.bool (jH (a-b))])∧w'=w:=by
 by_cases h:R64 (a-b)
 ·have t:=aSA a b ha hb h
  have e1:=aA (wT h)
  have e2:=aA (zM h)
  obtain⟨a1,a2⟩:=ha;obtain⟨b1,b2⟩:=hb;obtain⟨h1,h2⟩:=h
  go_enter Tryz.func134,Tryz.ntmps134
  go_wp2
  go_ret2
  exact⟨by rw[unhide e1,unhide e2];rfl,rfl⟩
 ·have t:=aOF a b ha hb h
  obtain⟨a1,a2⟩:=ha;obtain⟨b1,b2⟩:=hb
  by_cases hn:a<0
  ·have hlt:a-b< -9223372036854775808:=by unfold R64 at h;omega
   have e1:=aA (sQ hlt)
   have e2:=aA (uJ hlt)
   clear h hlt
   go_enter Tryz.func134,Tryz.ntmps134
   go_wp2
   go_ret2
   exact⟨by rw[unhide e1,unhide e2];rfl,rfl⟩
  ·have hlt:9223372036854775807<a-b:=by unfold R64 at h;omega
   have e1:=aA (wY hlt)
   have e2:=aA (zI hlt)
   clear h hlt
   go_enter Tryz.func134,Tryz.ntmps134
   go_wp2
   go_ret2
   exact⟨by rw[unhide e1,unhide e2];rfl,rfl⟩
theorem zQ(a:Int)(ha:R64 a)(w:World):Calls Tryz.prog 145 #[.int .i64 a] w λe w'=>e=.returned (.int .u64 (absZ a))∧w'=w:=by
 obtain⟨a1,a2⟩:=ha
 by_cases h:a<0
 ·have e1:Hid (absZ a=IntKind.u64.wrap (-IntKind.u64.wrap a)):=by unfold absZ;rw[if_pos h];show -a=_;rw[IntKind.wrap_u64,IntKind.wrap_u64];omega
  go_enter Tryz.func145,Tryz.ntmps145
  go_wp2
  go_ret
  exact⟨by rw[unhide e1];rfl,rfl⟩
 ·have e1:Hid (absZ a=a):=by unfold absZ;rw[if_neg h];exact rfl
  go_enter Tryz.func145,Tryz.ntmps145
  go_wp2
  go_ret
  exact⟨by rw[unhide e1];rfl,rfl⟩
theorem aLZ(n:Bool)(w:World):Calls Tryz.prog 147 #[.bool n] w λe w'=>e=.returned (.int .u64 (halfZ n))∧w'=w:=by
 cases n
 ·go_enter Tryz.func147,Tryz.ntmps147
  go_wp2
  go_ret
  exact⟨rfl,rfl⟩
 ·go_enter Tryz.func147,Tryz.ntmps147
  go_wp2
  go_ret
  exact⟨rfl,rfl⟩
theorem vO (n : Bool) (m : Int) (h0 : 0 ≤ m) (h1 : m < 18446744073709551616) (w : World) :
  Calls Tryz.prog 148 #[.bool n,.int .u64 m] w λe w'=>e=.returned (.tuple #[.int .i64 (gD (jY n m)),.bool (jH (jY n m))])∧w'=w:=by
 cases n
 ·by_cases h:m≤9223372036854775807
  ·have e1:Hid (gD (jY false m)=m):=wT (z:=m) ⟨Yo,h⟩
   have e2:Hid (jH (jY false m)=false):=zM (z:=m) ⟨Yo,h⟩
   go_enter Tryz.func148,Tryz.ntmps148
   go_wp2
   go_ret2
   exact⟨by rw[unhide e1,unhide e2];rfl,rfl⟩
  ·have e1:Hid (gD (jY false m)=9223372036854775807):=wY (z:=m) Yo
   have e2:Hid (jH (jY false m)=true):=zI (z:=m) Yo
   go_enter Tryz.func148,Tryz.ntmps148
   go_wp2
   go_ret2
   exact⟨by rw[unhide e1,unhide e2];rfl,rfl⟩
 ·by_cases h:m≤9223372036854775808
  ·have e1:Hid (gD (jY true m)=wrap64 (IntKind.u64.wrap (-m))):=by show gD (-m)=_;rw[wT ⟨Yo,Yo⟩,IntKind.wrap_u64];unfold wrap64;omega
   have e2:Hid (jH (jY true m)=false):=zM (z:= -m) ⟨Yo,Yo⟩
   go_enter Tryz.func148,Tryz.ntmps148
   go_wp2
   go_ret2
   exact⟨by rw[unhide e1,unhide e2];rfl,rfl⟩
  ·have e1:Hid (gD (jY true m)= -9223372036854775808):=sQ (z:= -m) Yo
   have e2:Hid (jH (jY true m)=true):=uJ (z:= -m) Yo
   go_enter Tryz.func148,Tryz.ntmps148
   go_wp2
   go_ret2
   exact⟨by rw[unhide e1,unhide e2];rfl,rfl⟩
theorem add64_0 (x y : Int) (hx : 0 ≤ x) (hy : 0 ≤ y) (w : World) : (callFunc 146 #[.int .u64 x, .int .u64 y, .int .u64 0]).run Tryz.prog w =
  .ok (.value (.tuple #[.int .u64 ((x+y)%18446744073709551616),.int .u64 ((x+y)/18446744073709551616)])) w:=by
 obtain⟨x,rfl⟩:=Int.eq_ofNat_of_zero_le hx
 obtain⟨y,rfl⟩:=Int.eq_ofNat_of_zero_le hy
 rw[run_callFunc_extern Tryz.func146 (by kernel_rfl) (by kernel_rfl) (by kernel_rfl) (e:=add64Entry) (by kernel_rfl),run_add64 x y 0 Yo Yo Yo Yo]
 simp only[Result.andThen]
 congr 5<;>omega
namespace M64
theorem maskN(a:Nat)(ha:a<18446744073709551616):bits .and .u64 (a:Int) 4294967295=((a%4294967296:Nat):Int):=by
 have h:=bits_and_u64_nat a 4294967295 ha Yo
 have e:a &&& 4294967295=a%4294967296:=Nat.and_two_pow_sub_one_eq_mod a 32
 rw[e] at h
 exact h
theorem divN(a:Nat):(a:Int)/4294967296=((a/4294967296:Nat):Int):=Yo
theorem mulN(a b:Nat):(a:Int)*(b:Int)=((a*b:Nat):Int):=(Int.natCast_mul a b).symm
theorem addN(a b:Nat):(a:Int)+(b:Int)=((a+b:Nat):Int):=(Int.natCast_add a b).symm
theorem wrapN(a:Nat)(ha:a<18446744073709551616):IntKind.u64.wrap (a:Int)=(a:Int):=by rw[IntKind.wrap_u64];omega
theorem wrapM(a:Nat):IntKind.u64.wrap (a:Int)=((a%18446744073709551616:Nat):Int):=by rw[IntKind.wrap_u64];omega
end M64
set_option maxHeartbeats 1000000 in
theorem aIH (x y : Nat) (hx : x < 18446744073709551616) (hy : y < 18446744073709551616) (w : World) :
  Calls Tryz.prog 144 #[.int .u64 x,.int .u64 y] w λe w'=>e=.returned (.tuple #[.int .u64 ((x*y/18446744073709551616:Nat):Int),.int .u64 ((x*y%18446744073709551616:Nat):Int)])∧w'=w:=by
 obtain⟨bd,bt,bw,hhi⟩:=Lib.mul64_hi x y hx hy
 have ba:=Lib.half_mul_le (a:=x/4294967296) (b:=y/4294967296) Yo Yo
 have bb:=Lib.half_mul_le (a:=x/4294967296) (b:=y%4294967296) Yo Yo
 have bc:=Lib.half_mul_le (a:=x%4294967296) (b:=y/4294967296) Yo Yo
 have ba':x/4294967296*(y/4294967296)<18446744073709551616:=Yo
 have bb':x/4294967296*(y%4294967296)<18446744073709551616:=Yo
 have bc':x%4294967296*(y/4294967296)<18446744073709551616:=Yo
 have bh1:x/4294967296*(y/4294967296)+(x/4294967296*(y%4294967296)+x%4294967296*(y%4294967296)/4294967296)/4294967296<18446744073709551616:=Yo
 have bh:x/4294967296*(y/4294967296)+(x/4294967296*(y%4294967296)+x%4294967296*(y%4294967296)/4294967296)/4294967296+((x/4294967296*(y%4294967296)+x%4294967296*(y%4294967296)/4294967296)%4294967296+x%4294967296*(y/4294967296))/4294967296<18446744073709551616:=Yo
 have HH:=aA hhi
 clear hhi
 go_enter Tryz.func144,Tryz.ntmps144
 go_wp2
 simp only[M64.maskN x hx,M64.maskN y hy,M64.divN,M64.mulN,M64.addN,M64.wrapN _ bd,M64.wrapN _ bb',M64.wrapN _ bt,M64.maskN _ bt,M64.wrapN _ bc',M64.wrapN _ bw,M64.wrapN _ ba',M64.wrapN _ bh1,M64.wrapN _ bh,M64.wrapM (x*y)]
 rw[unhide HH]
 go_ret2
 exact⟨rfl,rfl⟩
theorem aIM (x y : Int) (x0 : 0 ≤ x) (x1 : x < 18446744073709551616) (y0 : 0 ≤ y) (y1 : y < 18446744073709551616) (w : World) :
  Calls Tryz.prog 144 #[.int .u64 x,.int .u64 y] w λe w'=>e=.returned (.tuple #[.int .u64 (x*y/18446744073709551616),.int .u64 (x*y%18446744073709551616)])∧w'=w:=by
 obtain⟨x,rfl⟩:=Int.eq_ofNat_of_zero_le x0
 obtain⟨y,rfl⟩:=Int.eq_ofNat_of_zero_le y0
 have h:=aIH x y Yo Yo w
 rw[Int.natCast_ediv,Int.natCast_emod,Int.natCast_mul] at h
 exact h
end Go.Proofs.YtdhblehhgpdpdacGreat
