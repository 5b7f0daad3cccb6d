import Derived.Test.YthimcecbgpamdaaGreatDoorNear166
namespace Go.Proofs.YthimcecbgpamdaaGreatDoor
open Go.RowKit
variable{f:Operand->Value}
theorem aBK{o:Oper}(x y:Operand)(ho:o.op=.binOp .neq 9 x y 9){u v:ByteArray}(hx:f x=.string u)(hy:f y=.string v)(h:u=v)(w:World):(execOp f o).run Tryz.prog w=.ok (.value (.bool false)) w:=by
 subst h;unfold execOp;rw[ho];dsimp only;rw[hx,hy];go_simp
end Go.Proofs.YthimcecbgpamdaaGreatDoor
