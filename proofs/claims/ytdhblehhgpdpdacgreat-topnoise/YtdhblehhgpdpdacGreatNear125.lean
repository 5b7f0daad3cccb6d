import Derived.Test.YtdhblehhgpdpdacGreatNear71
import Derived.Test.YtdhblehhgpdpdacGreatNear39
import Derived.Test.YtdhblehhgpdpdacGreatNear135
import Derived.Test.YtdhblehhgpdpdacGreatNear29
import Derived.Test.YtdhblehhgpdpdacGreatNear134
import Derived.Test.YtdhblehhgpdpdacGreatNear47
import Derived.Laws.BitsLemmas
import Derived.Test.YtdhblehhgpdpdacGreatNear94
namespace Go.Proofs.YtdhblehhgpdpdacGreat
open Go.RowKit
def clF (fr : Int) (nd : Nat → Nd) (v : Nat → Value) (j : Nat) : Value := if j = 0 then iV fr else ndF (nd ((j - 1) / 74)) (v ((j - 1) / 74)) ((j - 1) % 74)
def ipF (rd : Nat → Nat → Int) (bad : Int) (lv : Value) (j : Nat) : Value := if j < 12 then iV (rd (j / 3) (j % 3)) else if j = 12 then iV bad else lv
def lyF (ph wo : Int) (v : Value) (j : Nat) : Value := if j = 0 then iV ph else if j = 1 then iV wo else v
def m4F (m : Nat → Ms) (v : Nat → Value) (j : Nat) : Value := msF (m (j / 4)).K (m (j / 4)).F (m (j / 4)).R (v (j / 4)) (j % 4)
def slV (a : Option Addr × Nat) (n : Nat) : Value := .slice a.1 n a.2
instance : ZerK Tryz.prog 58 297 (clF 0 (fun _ => zeroN) (fun _ => slV (none, 0) 0)) := ⟨fun w => by kernel_rfl⟩
instance : ZerK Tryz.prog 31 14 (ipF (fun _ _ => 0) 0 (.slice none 0 0)) := ⟨fun w => by kernel_rfl⟩
instance : ZerK Tryz.prog 35 3 (lyF 0 0 (.slice none 0 0)) := ⟨fun w => by kernel_rfl⟩
instance : ZerK Tryz.prog 61 14 (rpF zeroN) := ⟨zeroRp⟩
instance : ZerK Tryz.prog 110 16 (m4F (fun _ => zeroM) (fun _ => slV (none, 0) 0)) := ⟨fun w => by kernel_rfl⟩
theorem OwnM.base {w : World} {B C : Nat} {v : Value} {L : List Lm} (h : OwnM w B v L) (e : C ≤ B) : OwnM w C v L := ⟨rw_base h.1 e, fun c hc => rw_base (h.2 c hc) e⟩
structure Lj where
 y : Ly
 ao : Option Addr
 cap : Nat
def ljV (c : Lj) : Value := .slice c.ao c.y.n c.cap
def ljF (c : Lj) : Nat → Value := lyF c.y.ph c.y.wo (ljV c)
def LjRd (w : World) (ao : Option Addr) (L : List Lj) : Prop := 0 < L.length → ∃ b o, ao = some ⟨b, o, none⟩ ∧ ∀ i c, L[i]? = some c → ∀ k, k < 3 → w.cell? ⟨b, o + i * 3 + k, none⟩ = some (ljF c k)
def LbRd (w : World) (c : Lj) : Prop := Sr w c.ao c.y.n c.cap (bF c.y.g) ∧ c.y.n ≤ c.cap ∧ c.y.n ≤ 140737488351232 ∧ ∀ i, c.y.g i < 256
def JRd (w : World) (ao : Option Addr) (L : List Lj) : Prop := LjRd w ao L ∧ ∀ c, c ∈ L → LbRd w c
section
variable {P : Program} {Q : Exit → Act → World → Prop} {a : Act} {w : World} {y : Code} {id id2 : Nat} {ops : Array Oper}
end
end Go.Proofs.YtdhblehhgpdpdacGreat
namespace Go.Proofs.YtdhblehhgpdpdacGreat
open Go.RowKit
section
variable {n : Nd} {s : Nat} {kind : Int} {many : Nat}
end
section
variable {H : Nat → Nat → Int} {T : Nat → Nat → Nat → Int} {bad : Int}
end
section
variable {x : Ip} {c : Cl}
def ndK (x : Ip) (c : Cl) (k i : Nat) : Nd := (wkK x c k).nd i
def bxK (x : Ip) (c : Cl) (k i : Nat) : List Ms := (wkK x c k).bx i
theorem ndK_succ {k i : Nat} (h : (i : Int) ≠ x.bad) : ndK x c (k + 1) i = phN k (ndK x c k i) c.fr (x.rd i) (bxK x c k i) := by
 show (if (i : Int) = x.bad then _ else _) = _
 rw [if_neg h]; rfl
theorem nd1 {i : Nat} (h : (i : Int) ≠ x.bad) : ndK x c 1 i = senN (c.nd i) c.fr (x.rd i) := ndK_succ h
theorem nd2 {i : Nat} (h : (i : Int) ≠ x.bad) : ndK x c 2 i = relN (ndK x c 1 i) (bxK x c 1 i) := ndK_succ h
theorem id0 (hE : frE x c = 0) {i : Nat} (hi : i < 4) : (c.nd i).id = (i : Nat) := (frE_ok hE).2.2.2 i hi
theorem sen_at (hE : frE x c = 0) {i : Nat} (hi : i < 4) (g : (i : Int) ≠ x.bad) : ndK x c 1 i = { c.nd i with fr := c.fr, di := fun s a => if (s : Int) = (c.nd i).id then x.rd i a else 0, he := fun _ => 0 } := by
 rw [nd1 g]; unfold senN; rw [if_neg (by rw [id0 hE hi, noN_at hi]; decide)]
theorem rel_atC (hE : frE x c = 0) {i : Nat} (hi : i < 4) (g : (i : Int) ≠ x.bad) : ndK x c 2 i = { ndK x c 1 i with di := relD (ndK x c 1 i) (bxK x c 1 i) } := by
 rw [nd2 g]; unfold relN; rw [if_neg (by rw [sen_at hE hi g]; show ¬ noN (c.nd i).id = true; rw [id0 hE hi, noN_at hi]; decide)]
theorem id1 (hE : frE x c = 0) {i : Nat} (hi : i < 4) (g : (i : Int) ≠ x.bad) : (ndK x c 1 i).id = (i : Nat) := by rw [sen_at hE hi g]; exact id0 hE hi
theorem id2 (hE : frE x c = 0) {i : Nat} (hi : i < 4) (g : (i : Int) ≠ x.bad) : (ndK x c 2 i).id = (i : Nat) := by rw [rel_atC hE hi g]; exact id1 hE hi g
end
end Go.Proofs.YtdhblehhgpdpdacGreat
namespace Go.Proofs.YtdhblehhgpdpdacGreat
open Go.RowKit
end Go.Proofs.YtdhblehhgpdpdacGreat
namespace Go.Proofs.YtdhblehhgpdpdacGreat
open Go.RowKit
end Go.Proofs.YtdhblehhgpdpdacGreat
namespace Go.Proofs.YtdhblehhgpdpdacGreat
open Go.RowKit
def MsR (l : List Ms) : Prop := ∀ m, m ∈ l → ∀ i, R64 (gL m.L i)
structure MsOK (m : Ms) : Prop where
 K : R64 m.K
 F : R64 m.F
 R : R64 m.R
 L : ∀ i, R64 (gL m.L i)
 n : m.L.length ≤ 24
section
variable {n : Nd} {l : List Ms}
end
structure IpOK (x : Ip) : Prop where
 rd : ∀ s a, R64 (x.rd s a)
 bad : R64 x.bad
 g : ∀ y, y ∈ x.ly → ∀ i, y.g i < 256
theorem MsOK.R' {l : List Ms} (h : ∀ m, m ∈ l → MsOK m) : MsR l := fun m hm => (h m hm).L
end Go.Proofs.YtdhblehhgpdpdacGreat
namespace Go.Proofs.YtdhblehhgpdpdacGreat
open Go.RowKit
end Go.Proofs.YtdhblehhgpdpdacGreat
namespace Go.Proofs.YtdhblehhgpdpdacGreat
open Go.RowKit
end Go.Proofs.YtdhblehhgpdpdacGreat
namespace Go.Proofs.YtdhblehhgpdpdacGreat
open Go.RowKit
end Go.Proofs.YtdhblehhgpdpdacGreat
namespace Go.Proofs.YtdhblehhgpdpdacGreat
open Go.RowKit
end Go.Proofs.YtdhblehhgpdpdacGreat
namespace Go.Proofs.YtdhblehhgpdpdacGreat
end Go.Proofs.YtdhblehhgpdpdacGreat
