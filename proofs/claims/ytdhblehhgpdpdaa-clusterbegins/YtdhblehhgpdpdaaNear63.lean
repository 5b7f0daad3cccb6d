import Derived.Test.YtdhblehhgpdpdaaNear38
import Derived.Test.YtdhblehhgpdpdaaNear40
import Derived.Test.YtdhblehhgpdpdaaNear56
namespace Go.Proofs.Ytdhblehhgpdpdaa
open Go.RowKit
def clF (fr : Int) (nd : Nat → Nd) (v : Nat → Value) (j : Nat) : Value := if j = 0 then iV fr else ndF (nd ((j - 1) / 74)) (v ((j - 1) / 74)) ((j - 1) % 74)
def lyF (ph wo : Int) (v : Value) (j : Nat) : Value := if j = 0 then iV ph else if j = 1 then iV wo else v
def slV (a : Option Addr × Nat) (n : Nat) : Value := .slice a.1 n a.2
theorem clF_nd (fr : Int) (nd : Nat → Nd) (v : Nat → Value) {i j : Nat} (hj : j < 74) : clF fr nd v (1 + i * 74 + j) = ndF (nd i) (v i) j := by
 unfold clF
 rw [if_neg (by omega), show (1 + i * 74 + j - 1) / 74 = i by omega, show (1 + i * 74 + j - 1) % 74 = j by omega]
theorem clF_set (fr : Int) (nd : Nat → Nd) (v : Nat → Value) (i : Nat) (n : Nd) (u : Value) : ∀ j, j < 297 → stP (clF fr nd v) (1 + i * 74) 74 (ndF n u) j = clF fr (upM nd i n) (upM v i u) j := by
 intro j hj
 unfold stP
 by_cases c : 1 + i * 74 ≤ j ∧ j < 1 + i * 74 + 74
 ·rw [if_pos c]
  unfold clF
  rw [if_neg (by omega), show (j - 1) / 74 = i by omega, show (j - 1) % 74 = j - (1 + i * 74) by omega, upM_same, upM_same]
 ·rw [if_neg c]
  unfold clF
  by_cases c0 : j = 0
  ·rw [if_pos c0, if_pos c0]
  ·rw [if_neg c0, if_neg c0]
   have : (j - 1) / 74 ≠ i := by omega
   rw [upM_other _ _ this, upM_other _ _ this]
theorem clF_one (fr : Int) (nd : Nat → Nd) (a : Nat → Option Addr × Nat) (n : Nat → Nat) : ∀ j, j < 297 → (clF fr nd (fun i => slV (a i) (n i)) j).oneCell' = true := by
 intro j _
 unfold clF
 split
 ·rfl
 ·exact ndF_one _ _ _ _ _ (Nat.mod_lt _ (by decide))
theorem stP_whole {g f : Nat → Value} {n : Nat} : ∀ j, j < n → stP g 0 n f j = f j := fun j hj => by
 have := stP_in g (o := 0) (n := n) f hj
 rwa [Nat.zero_add] at this
instance : ZerK Try.prog 41 297 (clF 0 (fun _ => zeroN) (fun _ => slV (none, 0) 0)) := ⟨fun w => by kernel_rfl⟩
structure Lj where
 y : Ly
 ao : Option Addr
 cap : Nat
def ljV (c : Lj) : Value := .slice c.ao c.y.n c.cap
def ljF (c : Lj) : Nat → Value := lyF c.y.ph c.y.wo (ljV c)
def LjRd (w : World) (ao : Option Addr) (L : List Lj) : Prop := 0 < L.length → ∃ b o, ao = some ⟨b, o, none⟩ ∧ ∀ i c, L[i]? = some c → ∀ k, k < 3 → w.cell? ⟨b, o + i * 3 + k, none⟩ = some (ljF c k)
def LbRd (w : World) (c : Lj) : Prop := Sr w c.ao c.y.n c.cap (bF c.y.g) ∧ c.y.n ≤ c.cap ∧ c.y.n ≤ 140737488351232 ∧ ∀ i, c.y.g i < 256
def JRd (w : World) (ao : Option Addr) (L : List Lj) : Prop := LjRd w ao L ∧ ∀ c, c ∈ L → LbRd w c
theorem JRd.below {w w' : World} {ao : Option Addr} {L : List Lj} (h : JRd w ao L) (k : Below w.heap.size w w') : JRd w' ao L := ⟨fun hl => by
 obtain ⟨b, o, e, hc⟩ := h.1 hl
 exact ⟨b, o, e, fun i c hi j hj => at_below (hc i c hi j hj) k⟩, fun c hc => ⟨(h.2 c hc).1.below k, (h.2 c hc).2⟩⟩
theorem agV_cong {g f : Nat → Value} {o n : Nat} (h : ∀ j, j < n → g (o + j) = f j) : agV g o n = agV f 0 n := by
 unfold agV
 congr 2
 refine List.map_congr_left fun j hj => ?_
 rw [h j (List.mem_range.1 hj), Nat.zero_add]
section
variable {P : Program} {Q : Exit → Act → World → Prop} {a : Act} {w : World} {y : Code} {id id2 : Nat} {ops : Array Oper}
end
end Go.Proofs.Ytdhblehhgpdpdaa
namespace Go.Proofs.Ytdhblehhgpdpdaa
open Go.RowKit
section
variable {n : Nd} {s : Nat} {kind : Int} {many : Nat}
end
section
variable {H : Nat → Nat → Int} {T : Nat → Nat → Nat → Int} {bad : Int}
end
section
variable {x : Ip} {c : Cl}
def ndK (x : Ip) (c : Cl) (k i : Nat) : Nd := (wkK x c k).nd i
def bxK (x : Ip) (c : Cl) (k i : Nat) : List Ms := (wkK x c k).bx i
theorem ndK_succ {k i : Nat} (h : (i : Int) ≠ x.bad) : ndK x c (k + 1) i = phN k (ndK x c k i) c.fr (x.rd i) (bxK x c k i) := by
 show (if (i : Int) = x.bad then _ else _) = _
 rw [if_neg h]; rfl
theorem nd1 {i : Nat} (h : (i : Int) ≠ x.bad) : ndK x c 1 i = senN (c.nd i) c.fr (x.rd i) := ndK_succ h
theorem nd2 {i : Nat} (h : (i : Int) ≠ x.bad) : ndK x c 2 i = relN (ndK x c 1 i) (bxK x c 1 i) := ndK_succ h
theorem id0 (hE : frE x c = 0) {i : Nat} (hi : i < 4) : (c.nd i).id = (i : Nat) := (frE_ok hE).2.2.2 i hi
theorem sen_at (hE : frE x c = 0) {i : Nat} (hi : i < 4) (g : (i : Int) ≠ x.bad) : ndK x c 1 i = { c.nd i with fr := c.fr, di := fun s a => if (s : Int) = (c.nd i).id then x.rd i a else 0, he := fun _ => 0 } := by
 rw [nd1 g]; unfold senN; rw [if_neg (by rw [id0 hE hi, noN_at hi]; decide)]
theorem rel_atC (hE : frE x c = 0) {i : Nat} (hi : i < 4) (g : (i : Int) ≠ x.bad) : ndK x c 2 i = { ndK x c 1 i with di := relD (ndK x c 1 i) (bxK x c 1 i) } := by
 rw [nd2 g]; unfold relN; rw [if_neg (by rw [sen_at hE hi g]; show ¬ noN (c.nd i).id = true; rw [id0 hE hi, noN_at hi]; decide)]
theorem id1 (hE : frE x c = 0) {i : Nat} (hi : i < 4) (g : (i : Int) ≠ x.bad) : (ndK x c 1 i).id = (i : Nat) := by rw [sen_at hE hi g]; exact id0 hE hi
theorem id2 (hE : frE x c = 0) {i : Nat} (hi : i < 4) (g : (i : Int) ≠ x.bad) : (ndK x c 2 i).id = (i : Nat) := by rw [rel_atC hE hi g]; exact id1 hE hi g
end
end Go.Proofs.Ytdhblehhgpdpdaa
