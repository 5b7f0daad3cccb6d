import Derived.Test.YtdhblehhgpdpdacGreatNear50
import Derived.Test.YtdhblehhgpdpdacGreatNear29
import Derived.Test.YtdhblehhgpdpdacGreatMemOK
import Derived.Test.YtdhblehhgpdpdacGreatNear94
import Derived.Test.YtdhblehhgpdpdacGreatNear134
import Derived.Test.YtdhblehhgpdpdacGreatNear127
namespace Go.Proofs.YtdhblehhgpdpdacGreat
open Go.RowKit
section
variable {f : Operand → Value} {o : Oper}
end
end Go.Proofs.YtdhblehhgpdpdacGreat
namespace Go.Proofs.YtdhblehhgpdpdacGreat
open Go.RowKit
end Go.Proofs.YtdhblehhgpdpdacGreat
namespace Go.Proofs.YtdhblehhgpdpdacGreat
open Go.RowKit
end Go.Proofs.YtdhblehhgpdpdacGreat
namespace Go.Proofs.YtdhblehhgpdpdacGreat
open Go.RowKit
end Go.Proofs.YtdhblehhgpdpdacGreat
namespace Go.Proofs.YtdhblehhgpdpdacGreat
open Go
end Go.Proofs.YtdhblehhgpdpdacGreat
namespace Go.Proofs.YtdhblehhgpdpdacGreat
open Go.RowKit
end Go.Proofs.YtdhblehhgpdpdacGreat
namespace Go.Proofs.YtdhblehhgpdpdacGreat
open Go.RowKit
end Go.Proofs.YtdhblehhgpdpdacGreat
namespace Go.Proofs.YtdhblehhgpdpdacGreat
open Go.RowKit
def lmC (c : Lm) : List Value := [iV c.m.K, iV c.m.F, iV c.m.R, lmV c]
def lmL : List Lm → List Value
 | [] => []
 | c :: L => lmC c ++ lmL L
theorem lmL_len (L : List Lm) : (lmL L).length = L.length * 4 := by
 induction L with
 | nil => rfl
 | cons c L ih => show (lmC c ++ lmL L).length = _; rw [List.length_append, ih, List.length_cons]; show 4 + _ = _; omega
theorem lmL_at (L : List Lm) : ∀ (i : Nat) (c : Lm), L[i]? = some c → ∀ k, k < 4 → (lmL L)[i * 4 + k]? = some (lmF c k) := by
 induction L with
 | nil => intro i c h; simp at h
 | cons d L ih =>
  intro i c h k hk
  show (lmC d ++ lmL L)[i * 4 + k]? = _
  cases i with
  | zero =>
   have e : d = c := by simpa using h
   subst e
   rw [List.getElem?_append_left (by show 0 * 4 + k < 4; omega)]
   match k, hk with
   | 0, _ => rfl
   | 1, _ => rfl
   | 2, _ => rfl
   | 3, _ => rfl
  | succ i =>
   rw [List.getElem?_append_right (by show 4 ≤ _; omega)]
   have := ih i c (by simpa using h) k hk
   rw [← this]
   congr 1
   show (i + 1) * 4 + k - 4 = _
   omega
def OwnV (w : World) (B : Nat) (c : Lm) : Prop := w.ownsRow B 3 1 (lmV c) c.m.L.length (rowV (iF (gL c.m.L)) c.m.L.length)
def OwnM (w : World) (B : Nat) (v : Value) (L : List Lm) : Prop := w.ownsRow B 69 4 v L.length (lmL L) ∧ ∀ c, c ∈ L → OwnV w B c
theorem OwnM.nil (w : World) (B : Nat) : OwnM w B (.slice none 0 0) [] := ⟨World.ownsRow_nil _ _ _ _, fun _ h => absurd h (List.not_mem_nil)⟩
theorem OwnM.rd {w : World} {B n cap : Nat} {ao : Option Addr} {L : List Lm} (h : OwnM w B (.slice ao n cap) L) (hl : ∀ c, c ∈ L → c.m.L.length ≤ 17592186044404) : MRd w ao L := by
 refine ⟨fun hp => ?_, fun c hc => ?_⟩
 ·rcases h.1.2 with ⟨e, h0⟩ | ⟨g, cp, cur, e, hb, hg, hc, hm, hsz, hcur⟩
  ·omega
  ·cases e
   refine ⟨g, 0, rfl, fun i c hi k hk => ?_⟩
   have hlt := (List.getElem?_eq_some_iff.1 hi).1
   have h1 := lmL_at L i c hi k hk
   have hL := lmL_len L
   rw [← hcur, List.getElem?_take, if_pos (by omega), Array.getElem?_toList] at h1
   unfold World.cell?
   rw [hg]
   show cur[0 + i * 4 + k]? = _
   rw [Nat.zero_add]
   exact h1
 ·obtain ⟨ao2, cap2, e, hs, hc2⟩ := owns_sr (h.2 c hc)
  unfold lmV at e
  cases e
  exact ⟨hs, hc2, hl c hc⟩
end Go.Proofs.YtdhblehhgpdpdacGreat
namespace Go.Proofs.YtdhblehhgpdpdacGreat
open Go.RowKit
end Go.Proofs.YtdhblehhgpdpdacGreat
namespace Go.Proofs.YtdhblehhgpdpdacGreat
open Go.RowKit
end Go.Proofs.YtdhblehhgpdpdacGreat
namespace Go.Proofs.YtdhblehhgpdpdacGreat
open Go.RowKit
end Go.Proofs.YtdhblehhgpdpdacGreat
namespace Go.Proofs.YtdhblehhgpdpdacGreat
open Go.RowKit
end Go.Proofs.YtdhblehhgpdpdacGreat
namespace Go.Proofs.YtdhblehhgpdpdacGreat
open Go.RowKit
def rpP (n : Nd) (x j : Nat) : Value := if j = 0 then iV n.id else if j = 1 then iV n.fr else if j < 5 then iV (n.us (j - 2)) else if j < 8 then iV (if j - 5 < x then (n.ax (j - 5)).X else 0) else if j = 8 then iV n.dg else if j = 9 then .bool n.vS else .bool (n.rl.I (j - 10))
def rpF (n : Nd) : Nat → Value := rpP n 3
theorem zeroRp (w : World) : (zeroValue 61).run Tryz.prog w = .ok (agV (rpP zeroN 3) 0 14) w := by kernel_rfl
section
variable {f : Operand → Value} {o : Oper} {x : Operand} {b off : Nat}
end
end Go.Proofs.YtdhblehhgpdpdacGreat
