import Derived.Test.YtdhblehhgpdpdacGreatNear139
import Derived.Test.YtdhblehhgpdpdacGreatNear119
import Derived.Test.YtdhblehhgpdpdacGreatNear122
import Derived.Test.YtdhblehhgpdpdacGreatNodPr10
import Derived.Test.YtdhblehhgpdpdacGreatNear135
import Derived.Test.YtdhblehhgpdpdacGreatNear81
namespace Go.Proofs.YtdhblehhgpdpdacGreat
open Go.RowKit
end Go.Proofs.YtdhblehhgpdpdacGreat
namespace Go.Proofs.YtdhblehhgpdpdacGreat
open Go.RowKit
end Go.Proofs.YtdhblehhgpdpdacGreat
namespace Go.Proofs.YtdhblehhgpdpdacGreat
open Go.RowKit
end Go.Proofs.YtdhblehhgpdpdacGreat
namespace Go.Proofs.YtdhblehhgpdpdacGreat
open Go.RowKit
structure Li where
 rd : Nat → Nat → Int
 bad : Int
 LL : List Lj
 lo : Option Addr
 lc : Nat
def Li.x (c : Li) : Ip := ⟨c.rd, c.bad, c.LL.map Lj.y⟩
structure LiOK (w : World) (c : Li) : Prop where
 ip : IpOK c.x
 jr : JRd w c.lo c.LL
 lc : c.LL.length ≤ c.lc
end Go.Proofs.YtdhblehhgpdpdacGreat
