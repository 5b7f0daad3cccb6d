import Derived.Test.YtdhblehhgpdpdacGreatNear131
import Derived.Test.YtdhblehhgpdpdacGreatCod
namespace Go.Proofs.YtdhblehhgpdpdacGreat
open Go.RowKit
def iV (x : Int) : Value := .int .i64 x
def ntnF (t : Tn) (j : Nat) : Value := iV (if j = 0 then t.Dt else if j = 1 then t.Q else if j = 2 then t.R else t.G)
def nstF (s : St) (j : Nat) : Value := if j = 0 then iV s.X else if j = 1 then iV s.V else if j = 2 then iV s.P00 else if j = 3 then iV s.P01 else if j = 4 then iV s.P11 else if j = 5 then .bool s.B else iV s.M
def nrlF (r : Rl) (j : Nat) : Value := if j < 4 then .bool (r.I j) else if j < 8 then iV (r.M (j - 4)) else iV (r.J (j - 8))
def ndF (n : Nd) (v : Value) (j : Nat) : Value :=
 if j < 2 then iV (if j = 0 then n.id else n.fr)
 else if j < 6 then ntnF n.tn (j - 2)
 else if j < 27 then nstF (n.ax ((j - 6) / 7)) ((j - 6) % 7)
 else if j < 39 then nrlF n.rl (j - 27)
 else if j < 51 then iV (n.di ((j - 39) / 3) ((j - 39) % 3))
 else if j < 55 then iV (n.he (j - 51))
 else if j < 67 then iV (n.ag ((j - 55) / 3) ((j - 55) % 3))
 else if j < 70 then iV (n.us (j - 67))
 else if j < 71 then iV n.dg
 else if j < 72 then iV n.vX
 else if j < 73 then .bool n.vS
 else v
def NdAt (w : World) (b : Nat) (n : Nd) (v : Value) : Prop := Vh 55 w b 74 74 (ndF n v)
section
variable {w w' : World} {b : Nat} {n : Nd} {v : Value}
theorem NdAt.kept {z : Nat} (h : NdAt w b n v) (k : Kept z w w') (hz : b ≠ z) : NdAt w' b n v := Vh.kept h k hz
theorem NdAt.lt (h : NdAt w b n v) : b < w.heap.size := Vh.lt h
end
end Go.Proofs.YtdhblehhgpdpdacGreat
