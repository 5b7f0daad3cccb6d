/- Four numbers in memory. -/
import Derived.Test.YtbgdjldmplkecaaClkOK
namespace Go.Proofs.Ytbgdjldmplkecaa
open Go.RowKit

/-- The block of four numbers. -/
def F4 (w : World) (b : Nat) (f : Nat → Int) : Prop := Vh 23 w b 4 4 (iF f)
section
variable {w w' : World} {b : Nat} {f : Nat → Int}
theorem F4.cell (h : F4 w b f) {i : Nat} (hi : i < 4) : w.cell? ⟨b, i, none⟩ = some (.int .i64 (f i)) := Vh.cell h hi
theorem F4.free (h : F4 w b f) (i : Nat) : w.frozen? ⟨b, i, none⟩ = false := Vh.free h i
theorem F4.lt (h : F4 w b f) : b < w.heap.size := Vh.lt h
theorem F4.below (h : F4 w b f) (k : Below w.heap.size w w') : F4 w' b f := Vh.below h k
theorem F4.under {B : Nat} (h : F4 w b f) (k : Below B w w') (hb : b < B) : F4 w' b f := Vh.same h (k.block b hb)
theorem F4.kept {z : Nat} (h : F4 w b f) (k : Kept z w w') (hz : b ≠ z) : F4 w' b f := Vh.kept h k hz
theorem F4.congr {g : Nat → Int} (h : F4 w b f) (e : ∀ i, i < 4 → f i = g i) : F4 w b g := Vh.congr h (fun i hi => by unfold iF; rw [e i hi])
theorem F4.set (h : F4 w b f) (i : Nat) (x : Int) : F4 (w.setCell ⟨b, i, none⟩ (.int .i64 x)) b (fun j => if j = i then x else f j) :=
  Vh.congr (Vh.set h i (.int .i64 x)) (fun j _ => by
    unfold stW iF
    by_cases e : j = i
    · rw [if_pos e]; show _ = Value.int .i64 (if j = i then x else f j); rw [if_pos e]
    · rw [if_neg e]; show _ = Value.int .i64 (if j = i then x else f j); rw [if_neg e])
theorem F4.new (w : World) (f : Nat → Int) : F4 (w.alloc (.cells #[.int .i64 (f 0), .int .i64 (f 1), .int .i64 (f 2), .int .i64 (f 3)] 23)) w.heap.size f :=
  Vh.new w 23 #[.int .i64 (f 0), .int .i64 (f 1), .int .i64 (f 2), .int .i64 (f 3)] (iF f) (by show 4 ≤ maxLen; decide) (fun i hi => by
    have : i = 0 ∨ i = 1 ∨ i = 2 ∨ i = 3 := by simp at hi; omega
    rcases this with rfl | rfl | rfl | rfl <;> rfl)
theorem F4.put (h : F4 w b f) (g : Nat → Int) : ∃ w', w' = (((w.setCell ⟨b, 0, none⟩ (.int .i64 (g 0))).setCell ⟨b, 1, none⟩ (.int .i64 (g 1))).setCell ⟨b, 2, none⟩ (.int .i64 (g 2))).setCell ⟨b, 3, none⟩ (.int .i64 (g 3)) ∧ F4 w' b g ∧ Kept b w w' := by
  refine ⟨_, rfl, ((((h.set 0 (g 0)).set 1 (g 1)).set 2 (g 2)).set 3 (g 3)).congr (fun i hi => ?_), (((kept_set w b 0 _).trans (kept_set _ b 1 _) (Or.inl rfl)).trans (kept_set _ b 2 _) (Or.inl rfl)).trans (kept_set _ b 3 _) (Or.inl rfl)⟩
  have : i = 0 ∨ i = 1 ∨ i = 2 ∨ i = 3 := by omega
  rcases this with rfl | rfl | rfl | rfl <;> rfl
end
theorem f4_alloc (w : World) (f : Nat → Int) : ∃ w1, w1 = w.alloc (.cells #[.int .i64 (f 0), .int .i64 (f 1), .int .i64 (f 2), .int .i64 (f 3)] 23) ∧ F4 w1 w.heap.size f ∧ Below w.heap.size w w1 ∧ w1.heap.size = w.heap.size + 1 :=
  ⟨_, rfl, F4.new w f, al_below w _, al_size w _⟩
/-- Two handed in and a result's. -/
theorem f4_three (w : World) (f l : Nat → Int) : ∃ w1, w1 = ((w.alloc (.cells #[.int .i64 (f 0), .int .i64 (f 1), .int .i64 (f 2), .int .i64 (f 3)] 23)).alloc (.cells #[.int .i64 (l 0), .int .i64 (l 1), .int .i64 (l 2), .int .i64 (l 3)] 23)).alloc (.cells #[.int .i64 0, .int .i64 0, .int .i64 0, .int .i64 0] 23) ∧
    F4 w1 w.heap.size f ∧ F4 w1 (w.heap.size + 1) l ∧ F4 w1 (w.heap.size + 1 + 1) (fun _ => 0) ∧ Below w.heap.size w w1 ∧ w1.heap.size = w.heap.size + 1 + 1 + 1 := by
  obtain ⟨u, eu, mu, ku, su⟩ := f4_alloc w f
  obtain ⟨v, ev, mv, kv, sv⟩ := f4_alloc u l
  obtain ⟨x, exx, mx, kx, sx⟩ := f4_alloc v (fun _ => 0)
  subst eu
  subst ev
  rw [su] at mv
  rw [sv, su] at mx
  refine ⟨x, exx, (mu.below kv).below kx, mv.below kx, mx, ?_, by omega⟩
  exact (ku.trans (kv.mono (by omega))).trans (kx.mono (by omega))

theorem run_index4 (f : Nat → Int) {i : Nat} (hi : i < 4) (w : World) : (Instr.index 23 (.agg #[.int .i64 (f 0), .int .i64 (f 1), .int .i64 (f 2), .int .i64 (f 3)]) (.int .i64 (i : Int))).run Try.prog w = .ok (.int .i64 (f i)) w := by
  have : i = 0 ∨ i = 1 ∨ i = 2 ∨ i = 3 := by omega
  rcases this with rfl | rfl | rfl | rfl <;> simp [Instr.index, go_sem]

end Go.Proofs.Ytbgdjldmplkecaa
