import Derived.Test.YtdhblehhgpdpdacGreatNear106
import Derived.Test.YtdhblehhgpdpdacGreatByteMem
namespace Go.Proofs.YtdhblehhgpdpdacGreat
open Go.RowKit
theorem oJ {f : Operand → Value} {o : Oper} (x y : Operand) (ho : o.op = .indexAddr 33 x y) {b off len cap i : Nat} (hx : f x = .slice (some ⟨b, off, none⟩) len cap) (hy : f y = .int .i64 (i : Int)) (hi : i < len) (w : World) :
  (execOp f o).run Tryz.prog w=.ok (.value (.pointer (some ⟨b,off+i,none⟩))) w:=by
 have hi2:(i:Int)<(len:Int):=Yo
 unfold execOp
 rw[ho]
 dsimp only
 rw[hx,hy]
 go_simp
theorem qI {f : Operand → Value} {o : Oper} (x : Operand) (ho : o.op = .load 5 x) {a : Addr} {v : Nat} (hx : f x = .pointer (some a)) {w : World} (hc : w.cell? a = some (bV v)) :
  (execOp f o).run Tryz.prog w=.ok (.value (bV v)) w:=by
 unfold bV at hc ⊢
 unfold execOp
 rw[ho]
 dsimp only
 rw[hx]
 go_simp
theorem aLw {f : Operand → Value} {o : Oper} (x y : Operand) (ho : o.op = .binOp .neq 5 x y 5) {u v : Nat} (hx : f x = bV u) (hy : f y = bV v) (h : u ≠ v) (w : World) :
  (execOp f o).run Tryz.prog w=.ok (.value (.bool true)) w:=by
 have h2:¬((u:Int)=(v:Int)):=Yo
 unfold bV at hx hy
 unfold execOp
 rw[ho]
 dsimp only
 rw[hx,hy]
 clear h
 go_simp
theorem aLy {f : Operand → Value} {o : Oper} (x y : Operand) (ho : o.op = .binOp .neq 5 x y 5) {u v : Nat} (hx : f x = bV u) (hy : f y = bV v) (h : u = v) (w : World) :
  (execOp f o).run Tryz.prog w=.ok (.value (.bool false)) w:=by
 subst h
 unfold bV at hx hy
 unfold execOp
 rw[ho]
 dsimp only
 rw[hx,hy]
 go_simp
theorem aKe {f : Operand → Value} {o : Oper} (x : Operand) (ho : o.op = .call { callee := .builtin .len, args := #[x], argTypes := #[33] }) {ao : Option Addr} {n c : Nat} (hx : f x = .slice ao n c) (w : World) :
  (execOp f o).run Tryz.prog w=.ok (.value (.int .i64 (n:Nat))) w:=by
 unfold execOp
 rw[ho]
 dsimp only
 go_simp
theorem aLa {f : Operand → Value} {o : Oper} (x y : Operand) (ho : o.op = .slice 33 x (some y) none none) {b off n c m : Nat} (hx : f x = .slice (some ⟨b, off, none⟩) n c) (hy : f y = .int .i64 (m : Nat)) (h1 : m ≤ n) (h3 : m < c) (w : World) :
  (execOp f o).run Tryz.prog w=.ok (.value (.slice (some ⟨b,off+m,none⟩) (n-m) (c-m))) w:=by
 unfold execOp
 rw[ho]
 dsimp only
 rw[hx]
 go_simp
 intro h;omega
theorem aJB {f : Operand → Value} {o : Oper} (x : Operand) (ho : o.op = .slice 118 x none none none) {b : Nat} (hx : f x = .pointer (some ⟨b, 0, none⟩)) (w : World) :
  (execOp f o).run Tryz.prog w=.ok (.value (.slice (some ⟨b,0,none⟩) 4 4)) w:=by
 unfold execOp
 rw[ho]
 dsimp only
 rw[hx]
 go_simp
theorem aFF(v u:Value)(w:World):(callFunc 68 #[v,u]).run Tryz.prog w=.ok (.enter 68 #[v,u]) w:=by go_simp
theorem Vh.cellz{t:TypeId}{w:World}{b N cap:Nat}{g:Nat→Value}(h:Vh t w b N cap g){i:Nat}(hi:i<N):w.cell? ⟨b,0+i,none⟩=some (g i):=by rw[Nat.zero_add];exact h.cell hi
end Go.Proofs.YtdhblehhgpdpdacGreat
