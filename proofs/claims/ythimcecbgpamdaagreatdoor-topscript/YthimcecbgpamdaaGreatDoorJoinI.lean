import Derived.Test.YthimcecbgpamdaaGreatDoorBigDiv3
namespace Go.Proofs.YthimcecbgpamdaaGreatDoor
open Go.RowKit
abbrev aCH(w:World)(b:Nat)(x:Bool):Prop:=BlAt 253 w b x
end Go.Proofs.YthimcecbgpamdaaGreatDoor
