import Derived.Test.YtdhblehhgpdpdacGreatNear142
import Derived.Test.YtdhblehhgpdpdacGreatNear156
namespace Go.Proofs.YtdhblehhgpdpdacGreat
open Go.RowKit
def iV(x:Int):Value:=.int .i64 x
def rY(t:Tn)(j:Nat):Value:=iV (if j=0 then t.Dt else if j=1 then t.Q else if j=2 then t.R else t.G)
def dG(s:St)(j:Nat):Value:=if j=0 then iV s.X else if j=1 then iV s.V else if j=2 then iV s.P00 else if j=3 then iV s.P01 else if j=4 then iV s.P11 else if j=5 then .bool s.B else iV s.M
def cZ(r:Rl)(j:Nat):Value:=if j<4 then .bool (r.I j) else if j<8 then iV (r.M (j-4)) else iV (r.J (j-8))
def ndF(n:Nd)(v:Value)(j:Nat):Value:=
 if j<2 then iV (if j=0 then n.id else n.fr)
 else if j<6 then rY n.tn (j-2)
 else if j<27 then dG (n.ax ((j-6)/7)) ((j-6)%7)
 else if j<39 then cZ n.rl (j-27)
 else if j<51 then iV (n.di ((j-39)/3) ((j-39)%3))
 else if j<55 then iV (n.he (j-51))
 else if j<67 then iV (n.ag ((j-55)/3) ((j-55)%3))
 else if j<70 then iV (n.us (j-67))
 else if j<71 then iV n.dg
 else if j<72 then iV n.vX
 else if j<73 then .bool n.vS
 else v
def kT(n:Nd)(v:Value):Value:=aV (ndF n v) 0 74
def NdAt(w:World)(b:Nat)(n:Nd)(v:Value):Prop:=Vh 55 w b 74 74 (ndF n v)
theorem aW:Many Tryz.prog 55 74:=Many.of _ Tryz.underlying55 rfl (by kernel_rfl)
theorem eD:Many Tryz.prog 69 4:=Many.of _ Tryz.underlying69 rfl (by kernel_rfl)
theorem lT:Many Tryz.prog 27 3:=Many.of _ Tryz.underlying27 rfl (by kernel_rfl)
theorem sP:Many Tryz.prog 48 4:=Many.of _ Tryz.underlying48 rfl (by kernel_rfl)
theorem pE:Many Tryz.prog 28 12:=Many.of _ Tryz.underlying28 rfl (by kernel_rfl)
theorem bT:OneC Tryz.prog 3:=⟨λw=>by go_simp,λw=>by go_simp⟩
theorem uD:OneC Tryz.prog 4:=⟨λw=>by go_simp,λw=>by go_simp⟩
theorem gI:OneC Tryz.prog 67:=⟨λw=>by go_simp,λw=>by go_simp⟩
theorem aNt:OneC Tryz.prog 51:=⟨λw=>by go_simp,λw=>by go_simp⟩
section
variable {w w':World} {b:Nat} {n:Nd} {v:Value}
theorem NdAt.below(h:NdAt w b n v)(k:Below w.heap.size w w'):NdAt w' b n v:=Vh.below h k
theorem NdAt.kept{z:Nat}(h:NdAt w b n v)(k:Kept z w w')(hz:b≠z):NdAt w' b n v:=Vh.kept h k hz
theorem NdAt.lt(h:NdAt w b n v):b<w.heap.size:=Vh.lt h
theorem aEo(n:Nd)(v u:Value):∀j,j<74→iJ (ndF n v) 73 u j=ndF n u j:=by
 intro j hj
 by_cases e:j=73
 ·subst e;rfl
 ·rw[gT _ _ e]
  unfold ndF
  by_cases h1:j<2
  ·rw[if_pos h1,if_pos h1]
  ·rw[if_neg h1,if_neg h1]
   by_cases h2:j<6
   ·rw[if_pos h2,if_pos h2]
   ·rw[if_neg h2,if_neg h2]
    by_cases h3:j<27
    ·rw[if_pos h3,if_pos h3]
    ·rw[if_neg h3,if_neg h3]
     by_cases h4:j<39
     ·rw[if_pos h4,if_pos h4]
     ·rw[if_neg h4,if_neg h4]
      by_cases h5:j<51
      ·rw[if_pos h5,if_pos h5]
      ·rw[if_neg h5,if_neg h5]
       by_cases h6:j<55
       ·rw[if_pos h6,if_pos h6]
       ·rw[if_neg h6,if_neg h6]
        by_cases h7:j<67
        ·rw[if_pos h7,if_pos h7]
        ·rw[if_neg h7,if_neg h7]
         by_cases h8:j<70
         ·rw[if_pos h8,if_pos h8]
         ·rw[if_neg h8,if_neg h8]
          by_cases h9:j<71
          ·rw[if_pos h9,if_pos h9]
          ·rw[if_neg h9,if_neg h9]
           by_cases h10:j<72
           ·rw[if_pos h10,if_pos h10]
           ·rw[if_neg h10,if_neg h10,if_pos Yo,if_pos Yo]
theorem cK(n:Nd)(a:Option Addr)(l c:Nat):∀j,j<74→(ndF n (.slice a l c) j).oneCell'=true:=by
 intro j _
 unfold ndF rY dG cZ iV
 repeat' split
 all_goals rfl
end
end Go.Proofs.YtdhblehhgpdpdacGreat
