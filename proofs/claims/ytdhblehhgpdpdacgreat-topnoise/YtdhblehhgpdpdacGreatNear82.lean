import Derived.Test.YtdhblehhgpdpdacGreatNear68
import Derived.Test.YtdhblehhgpdpdacGreatNear94
import Derived.Maps.OwnOps
import Derived.Maps.Views
import Derived.Test.YtdhblehhgpdpdacGreatNear13
namespace Go.Proofs.YtdhblehhgpdpdacGreat
open Go.RowKit Go.Maps
theorem intKey : Keyed Tryz.prog 3 := int_keyed Tryz.underlying3
theorem wf_R64 {x : Int} (h : R64 x) : (Lit.int .i64 x).wf = true := by
 unfold R64 at h
 simp [Lit.wf, IntKind.min, IntKind.max, IntKind.signed, IntKind.bits]
 omega
theorem intLit (x : Int) : WideAt.IsKeyLit (.int .i64 x) := by simp [WideAt.IsKeyLit]
def MI (w : World) (b n : Nat) (f : Int → Int) : Prop := ∃ D : DataW Unit, w.ownsMap Tryz.prog 3 (plainElem Tryz.prog 3) b n D ∧ ∀ k, R64 k → D.atKey (.int .i64 k) (.lit (.int .i64 0)) = .lit (.int .i64 (f k))
def upZ (f : Int → Int) (k v : Int) (x : Int) : Int := if x = k then v else f x
section
variable {w w' : World} {b n : Nat} {f : Int → Int}
theorem MI.lt (h : MI w b n f) : b < w.heap.size := by obtain ⟨D, h, _⟩ := h; exact h.lt
theorem MI.same (h : MI w b n f) (e : w'.heap[b]? = w.heap[b]?) : MI w' b n f := by
 obtain ⟨D, ⟨es, clock, hb, F, hs, hD⟩, hf⟩ := h
 exact ⟨D, ⟨es, clock, e.trans hb, F, hs, hD⟩, hf⟩
theorem MI.kept {z : Nat} (h : MI w b n f) (k : Kept z w w') (hz : b ≠ z) : MI w' b n f := h.same (k.block b h.lt hz)
theorem MI.mono (h : MI w b n f) {m : Nat} (e : n ≤ m) : MI w b m f := by obtain ⟨D, h, hf⟩ := h; exact ⟨D, h.mono e, hf⟩
theorem MI.congr {g : Int → Int} (h : MI w b n f) (e : ∀ k, R64 k → f k = g k) : MI w b n g := by
 obtain ⟨D, h, hf⟩ := h
 exact ⟨D, h, fun k hk => by rw [hf k hk, e k hk]⟩
theorem MI.put (h : MI w b n f) {k v : Int} (hk : R64 k) (hv : R64 v) (hn : n ≤ 1000000) {t : TypeId} (ht : Tryz.prog.underlying t = some (.map 3 3)) : ∃ w', (Instr.mapUpdate t (.map (some b)) (.int .i64 k) (.int .i64 v)).run Tryz.prog w = .ok () w' ∧ MI w' b (n + 1) (upZ f k v) ∧ Kept b w w' := by
 obtain ⟨D, h, hf⟩ := h
 have hD : IsMap D := by obtain ⟨es, clock, _, _, _, rfl⟩ := h; exact ⟨_, rfl⟩
 obtain ⟨w', hrun, h2, hg⟩ := h.update intKey ht (by unfold maxLen; omega) (keyOf_int_mk Tryz.underlying3 (wf_R64 hk)) (plainElem_int Tryz.underlying3 (wf_R64 hv))
 refine ⟨w', hrun, ⟨_, h2, fun x hx => ?_⟩, ⟨hg.os, hg.tape, hg.output, hg.size, fun i hi hn => hg.block i hi (fun e => hn (Option.some.inj e))⟩⟩
 unfold upZ
 by_cases e : x = k
 ·subst e; rw [if_pos rfl, atKey_put_same hD (intLit x)]
 ·rw [if_neg e, atKey_put_other (by intro h; cases h; exact e rfl), hf x hx]
end
end Go.Proofs.YtdhblehhgpdpdacGreat
namespace Go.Proofs.YtdhblehhgpdpdacGreat
open Go.RowKit
end Go.Proofs.YtdhblehhgpdpdacGreat
namespace Go.Proofs.YtdhblehhgpdpdacGreat
open Go.RowKit
def VeI (w : World) (v : Nat → Int) (b : Nat → Bool) (X : Int) (S : Bool) (g : Nat → Bool) (W : World) : Prop :=
 VdAt W (w.heap.size + 1 + 1 + 1 + 1) X S (.slice (some ⟨w.heap.size + 1 + 1 + 1, 0, none⟩) 4 4) ∧ Vh 4 W (w.heap.size + 1 + 1 + 1) 4 4 (tF g) ∧ F4 W w.heap.size v ∧ B4 W (w.heap.size + 1) b ∧ VdAt W (w.heap.size + 1 + 1) 0 false (.slice none 0 0) ∧ Below w.heap.size w W ∧ w.heap.size + 1 + 1 + 1 + 1 + 1 ≤ W.heap.size
section
variable {w W W' : World} {v : Nat → Int} {b : Nat → Bool} {X : Int} {S : Bool} {g : Nat → Bool}
theorem VeI.put {X' : Int} {S' : Bool} (h : VeI w v b X S g W) (m : VdAt W' (w.heap.size + 1 + 1 + 1 + 1) X' S' (.slice (some ⟨w.heap.size + 1 + 1 + 1, 0, none⟩) 4 4)) (k : Kept (w.heap.size + 1 + 1 + 1 + 1) W W') : VeI w v b X' S' g W' :=
 ⟨m, h.2.1.kept k (by omega), h.2.2.1.kept k (by omega), h.2.2.2.1.kept k (by omega), h.2.2.2.2.1.kept k (by omega), below_of_kept h.2.2.2.2.2.1 k (by omega) h.2.2.2.2.2.1.size, Nat.le_trans h.2.2.2.2.2.2 k.size⟩
theorem VeI.set (h : VeI w v b X S g W) (i : Nat) (x : Bool) : VeI w v b X S (fun j => if j = i then x else g j) (W.setCell ⟨w.heap.size + 1 + 1 + 1, i, none⟩ (.bool x)) := by
 have k := kept_set W (w.heap.size + 1 + 1 + 1) i (.bool x)
 refine ⟨h.1.kept k (by omega), Vh.congr (Vh.set h.2.1 i (.bool x)) (fun j _ => ?_), h.2.2.1.kept k (by omega), h.2.2.2.1.kept k (by omega), h.2.2.2.2.1.kept k (by omega), below_of_kept h.2.2.2.2.2.1 k (by omega) h.2.2.2.2.2.1.size, Nat.le_trans h.2.2.2.2.2.2 k.size⟩
 unfold stW tF
 by_cases e : j = i
 ·rw [if_pos e]; show _ = Value.bool (if j = i then x else g j); rw [if_pos e]
 ·rw [if_neg e]; show _ = Value.bool (if j = i then x else g j); rw [if_neg e]
theorem VeI.congr {g' : Nat → Bool} (h : VeI w v b X S g W) (e : ∀ i, g i = g' i) : VeI w v b X S g' W := by rw [← funext e]; exact h
end
end Go.Proofs.YtdhblehhgpdpdacGreat
