import Derived.Test.YthimcecbgpamdaaGreatDoorNear100
namespace Go.Proofs.YthimcecbgpamdaaGreatDoor
open Go.RowKit
variable{f:Operand->Value}{o:Oper}
theorem Z5(x:Operand)(ho:o.op=.convert 5 3 x){v:Nat}(hx:f x=bV v)(hv:v<256)(w:World):(execOp f o).run Tryz.prog w=.ok (.value (.int .i64 (v:Nat))) w:=by
 unfold bV at hx;unfold execOp;rw[ho];dsimp only;rw[hx];go_simp
 rw[IntKind.wrap_i64];omega
variable{ao:Option Addr}{w:World}
theorem aBI(x:Operand)(ho:o.op=.load 72 x){a:Addr}{n c:Nat}(hx:f x=.pointer (some a))(hc:w.cell? a=some (.slice ao n c)):(execOp f o).run Tryz.prog w=.ok (.value (.slice ao n c)) w:=Yg
variable{b:Nat}
theorem JU(x:Operand)(i:Nat)(ho:o.op=.fieldAddr 79 x i)(hx:f x=.pointer (some ⟨b,0,none⟩))(hi:i<4)(w:World):(execOp f o).run Tryz.prog w=.ok (.value (.pointer (some ⟨b,i,none⟩))) w:=by
 have:i=0\/i=1\/i=2\/i=3:=Yo;unfold execOp;rw[ho];dsimp only;rw[hx];rcases this with rfl|rfl|rfl|rfl<;>go_simp
variable{Q:Exit->Act->World->Prop}
theorem KH(w:World){a:Act}{K:Act->World->Prop}(ho:o.op=.alloc 79)(h:∀w',MgAt w' w.heap.size 0 0 0 (.slice none 0 0)->Below w.heap.size w w'->w'.heap.size=w.heap.size+1->K (a.put o.dst (.pointer (some ⟨w.heap.size,0,none⟩))) w'):WpI Tryz.prog o a w K Q:=by
 refine⟨?_⟩;have hh:=h _ (MgAt.new w 0 0 0 (.slice none 0 0)) (bK _ _) (dG _ _);unfold Oper.wp execOp;rw[ho];go_simp
 exact hh
def Cb2(b p q x y:Nat)(w:World):Prop:=w.cell? ⟨b,p,none⟩=some (bV x)/\w.cell? ⟨b,q,none⟩=some (bV y)
theorem Cb2.below{p q x y:Nat}{w':World}(h:Cb2 b p q x y w)(k:Below w.heap.size w w'):Cb2 b p q x y w':=⟨aU h.1 k,aU h.2 k⟩
theorem Cb2.kept{p q x y z:Nat}{w':World}(h:Cb2 b p q x y w)(k:Kept z w w')(hz:b≠z):Cb2 b p q x y w':=⟨yE h.1 k hz,yE h.2 k hz⟩
end Go.Proofs.YthimcecbgpamdaaGreatDoor
