/- A matrix's variable in memory; the contract of Good. -/
import Derived.Test.YtnfejfdekedmhabMatWork
namespace Go.Proofs.Ytnfejfdekedmhab
open Go.RowKit

/-- The block of a matrix's variable. -/
def MbAt (w : World) (b : Nat) (N : Int) (v : Value) : Prop := w.heap[b]? = some (.cells #[.int .i64 N, v] 24 (0, 0))
theorem MbAt.cell0 {w : World} {b : Nat} {N : Int} {v : Value} (h : MbAt w b N v) : w.cell? ⟨b, 0, none⟩ = some (.int .i64 N) := by
  unfold MbAt at h; unfold World.cell?; rw [h]; rfl
theorem MbAt.cell1 {w : World} {b : Nat} {N : Int} {v : Value} (h : MbAt w b N v) : w.cell? ⟨b, 1, none⟩ = some v := by
  unfold MbAt at h; unfold World.cell?; rw [h]; rfl
theorem MbAt.free {w : World} {b : Nat} {N : Int} {v : Value} (h : MbAt w b N v) (i : Nat) : w.frozen? ⟨b, i, none⟩ = false := by
  unfold MbAt at h; simp [World.frozen?, h]
theorem MbAt.lt {w : World} {b : Nat} {N : Int} {v : Value} (h : MbAt w b N v) : b < w.heap.size := lt_of_block h
theorem MbAt.same {w w' : World} {b : Nat} {N : Int} {v : Value} (h : MbAt w b N v) (e : w'.heap[b]? = w.heap[b]?) : MbAt w' b N v := e.trans h
theorem MbAt.below {w w' : World} {b : Nat} {N : Int} {v : Value} (h : MbAt w b N v) (k : Below w.heap.size w w') : MbAt w' b N v := h.same (k.block b h.lt)
theorem MbAt.kept {z : Nat} {w w' : World} {b : Nat} {N : Int} {v : Value} (h : MbAt w b N v) (k : Kept z w w') (hz : b ≠ z) : MbAt w' b N v := h.same (k.block b h.lt hz)
theorem MbAt.kp2 {y z : Nat} {w w' : World} {b : Nat} {N : Int} {v : Value} (h : MbAt w b N v) (k : Kp2 y z w w') (hy : b ≠ y) (hz : b ≠ z) : MbAt w' b N v := h.same (k.block b h.lt hy hz)
theorem MbAt.new (w : World) (N : Int) (v : Value) : MbAt (w.alloc (.cells #[.int .i64 N, v] 24)) w.heap.size N v := by
  unfold MbAt
  show (w.heap.push _)[w.heap.size]? = _
  rw [Array.getElem?_push_size]
theorem MbAt.put {w : World} {b : Nat} {N : Int} {v : Value} (h : MbAt w b N v) (M : Int) (u : Value) :
    ∃ w', w' = (w.setCell ⟨b, 0, none⟩ (.int .i64 M)).setCell ⟨b, 1, none⟩ u ∧ MbAt w' b M u ∧ Kept b w w' := by
  refine ⟨_, rfl, ?_, (kept_set w b 0 _).trans (kept_set _ b 1 _) (Or.inl rfl)⟩
  unfold MbAt at h ⊢
  have h1 := heap_setCell_same w b 0 _ _ (.int .i64 M) h
  exact heap_setCell_same _ b 1 _ _ u h1

/-- Whether order and length fit. -/
def goodM (N : Int) (len : Nat) : Bool := decide (1 ≤ N) && decide (N ≤ 6) && decide ((len : Int) = N * N)
theorem goodM_of {N : Int} {len : Nat} (h : goodM N len = true) : ∃ n : Nat, N = (n : Int) ∧ 1 ≤ n ∧ n ≤ 6 ∧ len = n * n := by
  unfold goodM at h
  simp only [Bool.and_eq_true, decide_eq_true_eq] at h
  obtain ⟨⟨h1, h2⟩, h3⟩ := h
  refine ⟨N.toNat, by omega, by omega, by omega, ?_⟩
  have e : N = ((N.toNat : Nat) : Int) := by omega
  rw [e, ← Int.natCast_mul] at h3
  exact Int.ofNat_inj.1 h3
theorem goodM_nat {n : Nat} (h1 : 1 ≤ n) (h6 : n ≤ 6) : goodM (n : Int) (n * n) = true := by
  unfold goodM
  simp only [Bool.and_eq_true, decide_eq_true_eq]
  exact ⟨⟨by omega, by omega⟩, Int.natCast_mul n n⟩

/-- What a slice that may be empty reads. -/
def Rds (w : World) (ao : Option Addr) (len : Nat) (f : Nat → Int) : Prop := 0 < len → ∃ b o, ao = some ⟨b, o, none⟩ ∧ ∀ i, i < len → w.cell? ⟨b, o + i, none⟩ = some (.int .i64 (f i))
theorem Rds.below {w w' : World} {ao : Option Addr} {len : Nat} {f : Nat → Int} (h : Rds w ao len f) (k : Below w.heap.size w w') : Rds w' ao len f := by
  intro hl
  obtain ⟨b, o, e, hc⟩ := h hl
  exact ⟨b, o, e, fun i hi => at_below (hc i hi) k⟩
theorem Nh.rds {w : World} {b N cap : Nat} {g : Nat → Int} (h : Nh w b N cap g) : Rds w (some ⟨b, 0, none⟩) N g := fun _ => ⟨b, 0, rfl, fun i hi => by rw [Nat.zero_add]; exact h.cell hi⟩

set_option maxHeartbeats 400000 in
theorem good_any (N : Int) (ao : Option Addr) (len cap : Nat) (w : World) :
    Calls Try.prog 20 #[.agg #[.int .i64 N, .slice ao len cap]] w fun e w' => e = .returned (.bool (goodM N len)) ∧ Below w.heap.size w w' := by
  obtain ⟨w1, e1⟩ : ∃ w1, w1 = w.alloc (.cells #[.int .i64 N, .slice ao len cap] 24) := ⟨_, rfl⟩
  have hb : MbAt w1 w.heap.size N (.slice ao len cap) := by rw [e1]; exact MbAt.new w _ _
  have c0 := hb.cell0; have c1 := hb.cell1
  have K := hide (show Below w.heap.size w w1 by rw [e1]; exact al_below w _)
  have E1 := hide e1
  clear hb e1
  by_cases h1 : 1 ≤ N
  · by_cases h6 : N ≤ 6
    · obtain ⟨s, es⟩ : ∃ s, s = N * N := ⟨_, rfl⟩
      have ws : IntKind.i64.wrap (N * N) = s := by
        rw [← es, IntKind.wrap_i64]
        obtain ⟨n, rfl⟩ : ∃ n : Nat, N = (n : Int) := ⟨N.toNat, by omega⟩
        have h := Nat.mul_le_mul (show n ≤ 6 by omega) (show n ≤ 6 by omega)
        rw [es, ← Int.natCast_mul]; generalize n * n = q at *; omega
      have G := hide (show goodM N len = decide ((len : Int) = s) by unfold goodM; rw [es]; simp [h1, h6])
      clear es
      go_enter Try.func20, Try.ntmps20
      go_wp2_with fail
      rw [← unhide E1]
      go_wp2_with fail
      go_ret
      refine ⟨?_, unhide K⟩
      rw [unhide G]
      by_cases hq : (len : Int) = s
      · simp [hq]
      · simp [hq]
    · have G := hide (show goodM N len = false by unfold goodM; simp [h6])
      go_enter Try.func20, Try.ntmps20
      go_wp2_with fail
      rw [← unhide E1]
      go_wp2_with fail
      go_ret
      exact ⟨by rw [unhide G]; rfl, unhide K⟩
  · have G := hide (show goodM N len = false by unfold goodM; simp [h1])
    go_enter Try.func20, Try.ntmps20
    go_wp2_with fail
    rw [← unhide E1]
    go_wp2_with fail
    go_ret
    exact ⟨by rw [unhide G]; rfl, unhide K⟩

end Go.Proofs.Ytnfejfdekedmhab
