import Derived.Test.YtdhblehhgpdpdaaNear63
import Derived.Test.YtdhblehhgpdpdaaNear35
import Derived.Test.YtdhblehhgpdpdaaNear38
import Derived.Test.YtdhblehhgpdpdaaNear40
import Derived.Test.YtdhblehhgpdpdaaNear12
import Derived.Laws.BitsLemmas
import Derived.Test.YtdhblehhgpdpdaaNear54
namespace Go.Proofs.Ytdhblehhgpdpdaa
open Go.RowKit
def MsR (l : List Ms) : Prop := ∀ m, m ∈ l → ∀ i, R64 (gL m.L i)
structure MsOK (m : Ms) : Prop where
 K : R64 m.K
 F : R64 m.F
 R : R64 m.R
 L : ∀ i, R64 (gL m.L i)
 n : m.L.length ≤ 24
section
variable {n : Nd} {l : List Ms}
end
structure IpOK (x : Ip) : Prop where
 rd : ∀ s a, R64 (x.rd s a)
 bad : R64 x.bad
 g : ∀ y, y ∈ x.ly → ∀ i, y.g i < 256
theorem MsOK.R' {l : List Ms} (h : ∀ m, m ∈ l → MsOK m) : MsR l := fun m hm => (h m hm).L
end Go.Proofs.Ytdhblehhgpdpdaa
namespace Go.Proofs.Ytdhblehhgpdpdaa
open Go.RowKit
end Go.Proofs.Ytdhblehhgpdpdaa
namespace Go.Proofs.Ytdhblehhgpdpdaa
open Go.RowKit
end Go.Proofs.Ytdhblehhgpdpdaa
namespace Go.Proofs.Ytdhblehhgpdpdaa
open Go.RowKit
end Go.Proofs.Ytdhblehhgpdpdaa
namespace Go.Proofs.Ytdhblehhgpdpdaa
open Go.RowKit
end Go.Proofs.Ytdhblehhgpdpdaa
namespace Go.Proofs.Ytdhblehhgpdpdaa
end Go.Proofs.Ytdhblehhgpdpdaa
