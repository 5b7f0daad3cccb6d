/- A filter's state in memory. -/
import Derived.Test.YtblglojbghmphaaFilSpec
import Derived.Test.YtblglojbghmphaaRowPlain
namespace Go.Proofs.Ytblglojbghmphaa
open Go.RowKit

/-- The block b holds the state s. -/
def SAt (w : World) (b : Nat) (s : St) : Prop := w.heap[b]? = some (.cells #[.int .i64 s.X, .int .i64 s.V, .int .i64 s.P00, .int .i64 s.P01, .int .i64 s.P11, .bool s.B, .int .i64 s.M] 23 (0, 0))
theorem SAt.c0 {w : World} {b : Nat} {s : St} (h : SAt w b s) : w.cell? ⟨b, 0, none⟩ = some (.int .i64 s.X) := by
  unfold SAt at h; unfold World.cell?; rw [h]; rfl
theorem SAt.c1 {w : World} {b : Nat} {s : St} (h : SAt w b s) : w.cell? ⟨b, 1, none⟩ = some (.int .i64 s.V) := by
  unfold SAt at h; unfold World.cell?; rw [h]; rfl
theorem SAt.c2 {w : World} {b : Nat} {s : St} (h : SAt w b s) : w.cell? ⟨b, 2, none⟩ = some (.int .i64 s.P00) := by
  unfold SAt at h; unfold World.cell?; rw [h]; rfl
theorem SAt.c3 {w : World} {b : Nat} {s : St} (h : SAt w b s) : w.cell? ⟨b, 3, none⟩ = some (.int .i64 s.P01) := by
  unfold SAt at h; unfold World.cell?; rw [h]; rfl
theorem SAt.c4 {w : World} {b : Nat} {s : St} (h : SAt w b s) : w.cell? ⟨b, 4, none⟩ = some (.int .i64 s.P11) := by
  unfold SAt at h; unfold World.cell?; rw [h]; rfl
theorem SAt.c5 {w : World} {b : Nat} {s : St} (h : SAt w b s) : w.cell? ⟨b, 5, none⟩ = some (.bool s.B) := by
  unfold SAt at h; unfold World.cell?; rw [h]; rfl
theorem SAt.c6 {w : World} {b : Nat} {s : St} (h : SAt w b s) : w.cell? ⟨b, 6, none⟩ = some (.int .i64 s.M) := by
  unfold SAt at h; unfold World.cell?; rw [h]; rfl
theorem SAt.free {w : World} {b : Nat} {s : St} (h : SAt w b s) (i : Nat) : w.frozen? ⟨b, i, none⟩ = false := by
  unfold SAt at h; simp [World.frozen?, h]
theorem SAt.lt {w : World} {b : Nat} {s : St} (h : SAt w b s) : b < w.heap.size := lt_of_block h
theorem SAt.same {w' : World} {w : World} {b : Nat} {s : St} (h : SAt w b s) (e : w'.heap[b]? = w.heap[b]?) : SAt w' b s := e.trans h
theorem SAt.below {w' : World} {w : World} {b : Nat} {s : St} (h : SAt w b s) (k : Below w.heap.size w w') : SAt w' b s := h.same (k.block b h.lt)
theorem SAt.kept {z : Nat} {w' : World} {w : World} {b : Nat} {s : St} (h : SAt w b s) (k : Kept z w w') (hz : b ≠ z) : SAt w' b s := h.same (k.block b h.lt hz)
theorem SAt.drew {w : World} {b : Nat} {s : St} (h : SAt w b s) : SAt w.drew b s := h
theorem SAt.drewN {w : World} {b : Nat} {s : St} (h : SAt w b s) (k : Nat) : SAt (w.drewN k) b s := h
theorem SAt.s0 {w : World} {b : Nat} {s : St} (h : SAt w b s) (u : Int) : SAt (w.setCell ⟨b, 0, none⟩ (.int .i64 u)) b { s with X := u } := by
  unfold SAt at h ⊢
  exact heap_setCell_same w b 0 _ _ (.int .i64 u) h
theorem SAt.s1 {w : World} {b : Nat} {s : St} (h : SAt w b s) (u : Int) : SAt (w.setCell ⟨b, 1, none⟩ (.int .i64 u)) b { s with V := u } := by
  unfold SAt at h ⊢
  exact heap_setCell_same w b 1 _ _ (.int .i64 u) h
theorem SAt.s2 {w : World} {b : Nat} {s : St} (h : SAt w b s) (u : Int) : SAt (w.setCell ⟨b, 2, none⟩ (.int .i64 u)) b { s with P00 := u } := by
  unfold SAt at h ⊢
  exact heap_setCell_same w b 2 _ _ (.int .i64 u) h
theorem SAt.s3 {w : World} {b : Nat} {s : St} (h : SAt w b s) (u : Int) : SAt (w.setCell ⟨b, 3, none⟩ (.int .i64 u)) b { s with P01 := u } := by
  unfold SAt at h ⊢
  exact heap_setCell_same w b 3 _ _ (.int .i64 u) h
theorem SAt.s4 {w : World} {b : Nat} {s : St} (h : SAt w b s) (u : Int) : SAt (w.setCell ⟨b, 4, none⟩ (.int .i64 u)) b { s with P11 := u } := by
  unfold SAt at h ⊢
  exact heap_setCell_same w b 4 _ _ (.int .i64 u) h
theorem SAt.s5 {w : World} {b : Nat} {s : St} (h : SAt w b s) (u : Bool) : SAt (w.setCell ⟨b, 5, none⟩ (.bool u)) b { s with B := u } := by
  unfold SAt at h ⊢
  exact heap_setCell_same w b 5 _ _ (.bool u) h
theorem SAt.s6 {w : World} {b : Nat} {s : St} (h : SAt w b s) (u : Int) : SAt (w.setCell ⟨b, 6, none⟩ (.int .i64 u)) b { s with M := u } := by
  unfold SAt at h ⊢
  exact heap_setCell_same w b 6 _ _ (.int .i64 u) h
theorem SAt.new (w : World) (s : St) : SAt (w.alloc (.cells #[.int .i64 s.X, .int .i64 s.V, .int .i64 s.P00, .int .i64 s.P01, .int .i64 s.P11, .bool s.B, .int .i64 s.M] 23)) w.heap.size s := by
  unfold SAt
  show (w.heap.push _)[w.heap.size]? = _
  rw [Array.getElem?_push_size]
/-- The whole state is set. -/
theorem SAt.put {w : World} {b : Nat} {s : St} (h : SAt w b s) (t : St) : ∃ w', w' = (((((((w.setCell ⟨b, 0, none⟩ (.int .i64 t.X)).setCell ⟨b, 1, none⟩ (.int .i64 t.V)).setCell ⟨b, 2, none⟩ (.int .i64 t.P00)).setCell ⟨b, 3, none⟩ (.int .i64 t.P01)).setCell ⟨b, 4, none⟩ (.int .i64 t.P11)).setCell ⟨b, 5, none⟩ (.bool t.B)).setCell ⟨b, 6, none⟩ (.int .i64 t.M)) ∧ SAt w' b t ∧ Kept b w w' := by
  refine ⟨_, rfl, ?_, ?_⟩
  · exact (((((((h.s0 t.X).s1 t.V).s2 t.P00).s3 t.P01).s4 t.P11).s5 t.B).s6 t.M)
  · exact (((((((kept_set w b 0 _).trans (kept_set _ b 1 _) (Or.inl rfl)).trans (kept_set _ b 2 _) (Or.inl rfl)).trans (kept_set _ b 3 _) (Or.inl rfl)).trans (kept_set _ b 4 _) (Or.inl rfl)).trans (kept_set _ b 5 _) (Or.inl rfl)).trans (kept_set _ b 6 _) (Or.inl rfl))
/-- A state as one value. -/
abbrev stV (s : St) : Value := .agg #[.int .i64 s.X, .int .i64 s.V, .int .i64 s.P00, .int .i64 s.P01, .int .i64 s.P11, .bool s.B, .int .i64 s.M]
abbrev tnV (t : Tn) : Value := .agg #[.int .i64 t.Dt, .int .i64 t.Q, .int .i64 t.R, .int .i64 t.G]
/-- A hand with a pointer to a state. -/
abbrev hdV (b : Nat) : Value := .agg #[.pointer (some ⟨b, 0, none⟩)]

/-- A hand's variable. -/
def HbAt (w : World) (bh b : Nat) : Prop := w.heap[bh]? = some (.cells #[.pointer (some ⟨b, 0, none⟩)] 42 (0, 0))
theorem HbAt.c0 {w : World} {bh b : Nat} (h : HbAt w bh b) : w.cell? ⟨bh, 0, none⟩ = some (.pointer (some ⟨b, 0, none⟩)) := by
  unfold HbAt at h; unfold World.cell?; rw [h]; rfl
theorem HbAt.lt {w : World} {bh b : Nat} (h : HbAt w bh b) : bh < w.heap.size := lt_of_block h
theorem HbAt.same {w w' : World} {bh b : Nat} (h : HbAt w bh b) (e : w'.heap[bh]? = w.heap[bh]?) : HbAt w' bh b := e.trans h
theorem HbAt.kept {z : Nat} {w w' : World} {bh b : Nat} (h : HbAt w bh b) (k : Kept z w w') (hz : bh ≠ z) : HbAt w' bh b := h.same (k.block bh h.lt hz)
theorem HbAt.new (w : World) (b : Nat) : HbAt (w.alloc (.cells #[.pointer (some ⟨b, 0, none⟩)] 42)) w.heap.size b := by
  unfold HbAt
  show (w.heap.push _)[w.heap.size]? = _
  rw [Array.getElem?_push_size]
/-- What a hand's function starts with: its hand. -/
theorem hand_start {w : World} {b : Nat} {s : St} (h : SAt w b s) : ∃ w1, w1 = w.alloc (.cells #[.pointer (some ⟨b, 0, none⟩)] 42) ∧ HbAt w1 w.heap.size b ∧ SAt w1 b s ∧ Kept b w w1 ∧ w.heap.size ≠ b :=
  ⟨_, rfl, HbAt.new w b, h.below (al_below w _), al_kept w _, by have := h.lt; omega⟩
/-- A hand's variable and that of the old state, which stay. -/
structure Hd (bh b bo : Nat) (s : St) (w : World) : Prop where
  hand : HbAt w bh b
  old : SAt w bo s
  n1 : bh ≠ b
  n2 : bo ≠ b
theorem Hd.kept {bh b bo : Nat} {s : St} {w w' : World} (h : Hd bh b bo s w) (k : Kept b w w') : Hd bh b bo s w' := ⟨h.hand.kept k h.n1, h.old.kept k h.n2, h.n1, h.n2⟩
theorem Hd.drew {bh b bo : Nat} {s : St} {w : World} (h : Hd bh b bo s w) : Hd bh b bo s w.drew := ⟨h.hand, h.old, h.n1, h.n2⟩
def St.nil : St := ⟨0, 0, 0, 0, 0, false, 0⟩
def St.bend (s : St) (x : Bool) : St := { s with B := s.B || x }
def St.setX (s : St) (x : Int) : St := { s with X := x }
def St.setV (s : St) (x : Int) : St := { s with V := x }
def St.setP00 (s : St) (x : Int) : St := { s with P00 := x }
def St.setP01 (s : St) (x : Int) : St := { s with P01 := x }
def St.setP11 (s : St) (x : Int) : St := { s with P11 := x }
def St.setM (s : St) (x : Int) : St := { s with M := x }
theorem old_start {w : World} {b : Nat} {s : St} (h : SAt w b s) : ∃ w2, w2 = (w.alloc (.cells #[.pointer (some ⟨b, 0, none⟩)] 42)).alloc (.cells #[.int .i64 s.X, .int .i64 s.V, .int .i64 s.P00, .int .i64 s.P01, .int .i64 s.P11, .bool s.B, .int .i64 s.M] 23) ∧
    Hd w.heap.size b (w.heap.size + 1) s w2 ∧ SAt w2 b s ∧ Kept b w w2 := by
  obtain ⟨w1, e1, a1, s1, k1, n1⟩ := hand_start h
  have z1 : w1.heap.size = w.heap.size + 1 := by rw [e1]; exact al_size w _
  have h2 := SAt.new w1 s
  have k2 := al_kept (z := b) w1 (.cells #[.int .i64 s.X, .int .i64 s.V, .int .i64 s.P00, .int .i64 s.P01, .int .i64 s.P11, .bool s.B, .int .i64 s.M] 23)
  have k3 := al_below w1 (.cells #[.int .i64 s.X, .int .i64 s.V, .int .i64 s.P00, .int .i64 s.P01, .int .i64 s.P11, .bool s.B, .int .i64 s.M] 23)
  rw [z1] at h2
  have hl := h.lt
  refine ⟨_, by rw [← e1], ⟨a1.same (k3.block _ a1.lt), h2, n1, by omega⟩, s1.below k3, k1.trans k2 (Or.inl rfl)⟩
theorem SAt.pX {w : World} {b : Nat} {s : St} (h : SAt w b s) (u : Int) : ∃ w', w' = w.setCell ⟨b, 0, none⟩ (.int .i64 u) ∧ SAt w' b (s.setX u) ∧ Kept b w w' := ⟨_, rfl, h.s0 u, kept_set w b 0 _⟩
theorem SAt.pV {w : World} {b : Nat} {s : St} (h : SAt w b s) (u : Int) : ∃ w', w' = w.setCell ⟨b, 1, none⟩ (.int .i64 u) ∧ SAt w' b (s.setV u) ∧ Kept b w w' := ⟨_, rfl, h.s1 u, kept_set w b 1 _⟩
theorem SAt.pP00 {w : World} {b : Nat} {s : St} (h : SAt w b s) (u : Int) : ∃ w', w' = w.setCell ⟨b, 2, none⟩ (.int .i64 u) ∧ SAt w' b (s.setP00 u) ∧ Kept b w w' := ⟨_, rfl, h.s2 u, kept_set w b 2 _⟩
theorem SAt.pP01 {w : World} {b : Nat} {s : St} (h : SAt w b s) (u : Int) : ∃ w', w' = w.setCell ⟨b, 3, none⟩ (.int .i64 u) ∧ SAt w' b (s.setP01 u) ∧ Kept b w w' := ⟨_, rfl, h.s3 u, kept_set w b 3 _⟩
theorem SAt.pP11 {w : World} {b : Nat} {s : St} (h : SAt w b s) (u : Int) : ∃ w', w' = w.setCell ⟨b, 4, none⟩ (.int .i64 u) ∧ SAt w' b (s.setP11 u) ∧ Kept b w w' := ⟨_, rfl, h.s4 u, kept_set w b 4 _⟩
def St.setB (s : St) (x : Bool) : St := { s with B := x }
theorem SAt.pB {w : World} {b : Nat} {s : St} (h : SAt w b s) (u : Bool) : ∃ w', w' = w.setCell ⟨b, 5, none⟩ (.bool u) ∧ SAt w' b (s.setB u) ∧ Kept b w w' := ⟨_, rfl, h.s5 u, kept_set w b 5 _⟩
theorem SAt.pM {w : World} {b : Nat} {s : St} (h : SAt w b s) (u : Int) : ∃ w', w' = w.setCell ⟨b, 6, none⟩ (.int .i64 u) ∧ SAt w' b (s.setM u) ∧ Kept b w w' := ⟨_, rfl, h.s6 u, kept_set w b 6 _⟩

end Go.Proofs.Ytblglojbghmphaa
