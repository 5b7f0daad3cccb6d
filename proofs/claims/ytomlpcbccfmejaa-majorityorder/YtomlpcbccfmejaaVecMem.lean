/- What the reference's Vectors keeps in memory; the contract of its closure. -/
import Derived.Test.YtomlpcbccfmejaaGridMem
import Derived.Test.YtomlpcbccfmejaaRefAgr1
namespace Go.Proofs.Ytomlpcbccfmejaa
open Go.RowKit

/-- A block of one cell. -/
def C1 (t : TypeId) (w : World) (b : Nat) (v : Value) : Prop := w.heap[b]? = some (.cells #[v] t (0, 0))
section
variable {t : TypeId} {w w' : World} {b : Nat} {v : Value}
theorem C1.cell (h : C1 t w b v) : w.cell? ⟨b, 0, none⟩ = some v := by unfold C1 at h; unfold World.cell?; rw [h]; rfl
theorem C1.free (h : C1 t w b v) (i : Nat) : w.frozen? ⟨b, i, none⟩ = false := by unfold C1 at h; simp [World.frozen?, h]
theorem C1.lt (h : C1 t w b v) : b < w.heap.size := lt_of_block h
theorem C1.same (h : C1 t w b v) (e : w'.heap[b]? = w.heap[b]?) : C1 t w' b v := e.trans h
theorem C1.below (h : C1 t w b v) (k : Below w.heap.size w w') : C1 t w' b v := h.same (k.block b h.lt)
theorem C1.kept {z : Nat} (h : C1 t w b v) (k : Kept z w w') (hz : b ≠ z) : C1 t w' b v := h.same (k.block b h.lt hz)
theorem C1.set (h : C1 t w b v) (u : Value) : C1 t (w.setCell ⟨b, 0, none⟩ u) b u := by
  unfold C1 at h ⊢
  exact heap_setCell_same w b 0 _ _ u h
theorem C1.new (t : TypeId) (w : World) (v : Value) : C1 t (w.alloc (.cells #[v] t)) w.heap.size v := by
  unfold C1
  show (w.heap.push _)[w.heap.size]? = _
  rw [Array.getElem?_push_size]
end

set_option maxHeartbeats 1000000 in
theorem lie_any (ba bl : Nat) (c : Nat) (lo : Option Addr) (ln lc : Nat) (g : Nat → Int) (w : World) (hc : c ≤ 1000) (hab : ba ≠ bl) (ha : C1 3 w ba (.int .i64 (c : Nat))) (hl : C1 22 w bl (.slice lo ln lc)) (hr : Rd w lo ln (iF g)) (hrb : ∀ b o, 0 < ln → lo = some ⟨b, o, none⟩ → b ≠ ba) :
    Calls Try.prog 19 #[.pointer (some ⟨ba, 0, none⟩), .pointer (some ⟨bl, 0, none⟩)] w fun e w' => e = .returned (.int .i64 (liF g ln c)) ∧ C1 3 w' ba (.int .i64 ((c + 1 : Nat) : Int)) ∧ Kept ba w w' := by
  have c0 := ha.cell; have f0 := ha.free 0; have l0 := hl.cell
  have a1 := ha.set (.int .i64 ((c : Int) + 1))
  have l1 := hl.kept (kept_set w ba 0 (.int .i64 ((c : Int) + 1))) (fun e => hab e.symm)
  have d0 := a1.cell; have m0 := l1.cell
  have A1 := hide (show C1 3 (w.setCell ⟨ba, 0, none⟩ (.int .i64 ((c : Int) + 1))) ba (.int .i64 ((c + 1 : Nat) : Int)) from a1)
  have HR := hide hr; have HB := hide hrb
  clear ha hl hr a1 l1 hrb
  by_cases h : c < ln
  · obtain ⟨b, o, rfl, hcc⟩ := unhide HR (by omega)
    have nb := unhide HB b o (by omega) rfl
    have cc : (w.setCell ⟨ba, 0, none⟩ (.int .i64 ((c : Int) + 1))).cell? ⟨b, o + c, none⟩ = some (.int .i64 (g c)) := at_kept (hcc c h) (kept_set w ba 0 (.int .i64 ((c : Int) + 1))) nb
    have h' : (c : Int) + 1 ≤ (ln : Int) := by omega
    clear hcc
    go_enter Try.func19, Try.ntmps19
    go_wp2_with fail
    go_ret
    refine ⟨?_, unhide A1, kept_set _ _ _ _⟩
    unfold liF
    rw [if_pos h]
    rfl
  · have h' : ¬ (c : Int) + 1 ≤ (ln : Int) := by omega
    go_enter Try.func19, Try.ntmps19
    go_wp2_with fail
    go_ret
    refine ⟨?_, unhide A1, kept_set _ _ _ _⟩
    unfold liF
    rw [if_neg h]
    rfl

end Go.Proofs.Ytomlpcbccfmejaa
