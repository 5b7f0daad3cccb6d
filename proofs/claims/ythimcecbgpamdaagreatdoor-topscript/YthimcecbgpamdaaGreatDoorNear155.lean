import Derived.Test.YthimcecbgpamdaaGreatDoorNear122
namespace Go.Proofs.YthimcecbgpamdaaGreatDoor
open Go.RowKit
instance iRefNod9_1:EntK Tryz.prog 102:=⟨λargs w=>Yh⟩
instance iRefNod9_2:EntK Tryz.prog 104:=⟨λargs w=>Yh⟩
section
variable {f:Operand->Value} {o:Oper}
end
instance iNodD2_1:ZerK Tryz.prog 57 14 (gH dW):=⟨U3⟩
instance iNodD2_2:EntK Tryz.prog 108:=⟨λargs w=>Yh⟩
end Go.Proofs.YthimcecbgpamdaaGreatDoor
