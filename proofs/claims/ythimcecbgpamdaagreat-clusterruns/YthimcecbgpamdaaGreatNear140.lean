/- Joined: NodDcU, FilPlain, FixMul, FilOps, FilPred, FilTake, FilUpd0, FilUpdA, FilUpdB, FilUpdC, FilUpd, FilFace. -/
import Derived.Test.YthimcecbgpamdaaGreatNear148
import Derived.Test.YthimcecbgpamdaaGreatNear157
import Derived.Test.YthimcecbgpamdaaGreatNear149
import Derived.Test.YthimcecbgpamdaaGreatNear168
import Derived.Test.YthimcecbgpamdaaGreatNear173
import Derived.Test.YthimcecbgpamdaaGreatNear95
namespace Go.Proofs.YthimcecbgpamdaaGreat
open Go.RowKit

theorem own_one {V : World} {b base : Nat} {u : Int} (m : Vh 3 V b 1 1 (fun _ => iV u)) (h : base ≤ b) : V.ownsRow base 3 1 (.slice (some ⟨b, 0, none⟩) 1 1) 1 (rowV (iF (gL [u])) 1) := Vh.owns (m.congr (fun i hi => by match i, hi with | 0, _ => rfl)) h
section
variable {n : Nd} {l : List Ms} {v : Value} {i x : Nat} {u : Nat → Int} {a : Nat → St}
theorem upd_agN (hi : i < 4) (hx : x < 3) : ∀ j, j < 74 → stW (ndF (NA n (agP n l x i) u a) v) (0 + 55 + i * 3 + x * 1) (.int .i64 (tkn n l i (n.di i x) (3 * i + x) 12)) j = ndF (NA n (agP n l x (i + 1)) u a) v j := by
  rw [← ag_next hi]
  exact upd_agAt _ _ _ i x hi hx
theorem upd_usN {g : Nat → Nat → Int} (hx : x < 3) : ∀ j, j < 74 → stW (ndF (NA n g (usP n l x) a) v) (0 + 67 + x * 1) (.int .i64 (midL (insL n.rl.I (fun s => decG n l s x) 4))) j = ndF (NA n g (usP n l (x + 1)) a) v j := by
  rw [← us_next]
  exact upd_usAt _ _ _ x hx
theorem upd_axN (hx : x < 3) : ∀ j, j < 74 → stP (ndF (NA n (agP n l x 4) u (axP n l x)) v) (0 + 6 + x * 7) 7 (nstF (decA n l x)) j = ndF (NA n (agP n l (x + 1) 0) u (axP n l (x + 1))) v j := by
  rw [← ag_wrap, ← ax_next]
  exact upd_axAt _ _ _ x hx
theorem upd_axM {g : Nat → Nat → Int} (hx : x < 3) : ∀ j, j < 74 → stP (ndF (NA n g u (axP n l x)) v) (0 + 6 + x * 7) 7 (nstF (decA n l x)) j = ndF (NA n g u (axP n l (x + 1))) v j := by
  rw [← ax_next]
  exact upd_axAt _ _ _ x hx
end
abbrev dcF (n : Nd) (l : List Ms) (I : Nat) : Nd := { n with ag := decG n l, us := decU n l, ax := decA n l, dg := decD n l, he := fun s => if s = I then decD n l else n.he s }

end Go.Proofs.YthimcecbgpamdaaGreat

namespace Go.Proofs.YthimcecbgpamdaaGreat
open Go.RowKit

/-- The block b holds the state s. -/
def SAt (w : World) (b : Nat) (s : St) : Prop := w.heap[b]? = some (.cells #[.int .i64 s.X, .int .i64 s.V, .int .i64 s.P00, .int .i64 s.P01, .int .i64 s.P11, .bool s.B, .int .i64 s.M] 25 (0, 0))
theorem SAt.c0 {w : World} {b : Nat} {s : St} (h : SAt w b s) : w.cell? ⟨b, 0, none⟩ = some (.int .i64 s.X) := by
  unfold SAt at h; unfold World.cell?; rw [h]; rfl
theorem SAt.c1 {w : World} {b : Nat} {s : St} (h : SAt w b s) : w.cell? ⟨b, 1, none⟩ = some (.int .i64 s.V) := by
  unfold SAt at h; unfold World.cell?; rw [h]; rfl
theorem SAt.c2 {w : World} {b : Nat} {s : St} (h : SAt w b s) : w.cell? ⟨b, 2, none⟩ = some (.int .i64 s.P00) := by
  unfold SAt at h; unfold World.cell?; rw [h]; rfl
theorem SAt.c3 {w : World} {b : Nat} {s : St} (h : SAt w b s) : w.cell? ⟨b, 3, none⟩ = some (.int .i64 s.P01) := by
  unfold SAt at h; unfold World.cell?; rw [h]; rfl
theorem SAt.c4 {w : World} {b : Nat} {s : St} (h : SAt w b s) : w.cell? ⟨b, 4, none⟩ = some (.int .i64 s.P11) := by
  unfold SAt at h; unfold World.cell?; rw [h]; rfl
theorem SAt.c5 {w : World} {b : Nat} {s : St} (h : SAt w b s) : w.cell? ⟨b, 5, none⟩ = some (.bool s.B) := by
  unfold SAt at h; unfold World.cell?; rw [h]; rfl
theorem SAt.c6 {w : World} {b : Nat} {s : St} (h : SAt w b s) : w.cell? ⟨b, 6, none⟩ = some (.int .i64 s.M) := by
  unfold SAt at h; unfold World.cell?; rw [h]; rfl
theorem SAt.free {w : World} {b : Nat} {s : St} (h : SAt w b s) (i : Nat) : w.frozen? ⟨b, i, none⟩ = false := by
  unfold SAt at h; simp [World.frozen?, h]
theorem SAt.lt {w : World} {b : Nat} {s : St} (h : SAt w b s) : b < w.heap.size := lt_of_block h
theorem SAt.same {w' : World} {w : World} {b : Nat} {s : St} (h : SAt w b s) (e : w'.heap[b]? = w.heap[b]?) : SAt w' b s := e.trans h
theorem SAt.below {w' : World} {w : World} {b : Nat} {s : St} (h : SAt w b s) (k : Below w.heap.size w w') : SAt w' b s := h.same (k.block b h.lt)
theorem SAt.kept {z : Nat} {w' : World} {w : World} {b : Nat} {s : St} (h : SAt w b s) (k : Kept z w w') (hz : b ≠ z) : SAt w' b s := h.same (k.block b h.lt hz)
theorem SAt.drew {w : World} {b : Nat} {s : St} (h : SAt w b s) : SAt w.drew b s := h
theorem SAt.drewN {w : World} {b : Nat} {s : St} (h : SAt w b s) (k : Nat) : SAt (w.drewN k) b s := h
theorem SAt.s0 {w : World} {b : Nat} {s : St} (h : SAt w b s) (u : Int) : SAt (w.setCell ⟨b, 0, none⟩ (.int .i64 u)) b { s with X := u } := by
  unfold SAt at h ⊢
  exact heap_setCell_same w b 0 _ _ (.int .i64 u) h
theorem SAt.s1 {w : World} {b : Nat} {s : St} (h : SAt w b s) (u : Int) : SAt (w.setCell ⟨b, 1, none⟩ (.int .i64 u)) b { s with V := u } := by
  unfold SAt at h ⊢
  exact heap_setCell_same w b 1 _ _ (.int .i64 u) h
theorem SAt.s2 {w : World} {b : Nat} {s : St} (h : SAt w b s) (u : Int) : SAt (w.setCell ⟨b, 2, none⟩ (.int .i64 u)) b { s with P00 := u } := by
  unfold SAt at h ⊢
  exact heap_setCell_same w b 2 _ _ (.int .i64 u) h
theorem SAt.s3 {w : World} {b : Nat} {s : St} (h : SAt w b s) (u : Int) : SAt (w.setCell ⟨b, 3, none⟩ (.int .i64 u)) b { s with P01 := u } := by
  unfold SAt at h ⊢
  exact heap_setCell_same w b 3 _ _ (.int .i64 u) h
theorem SAt.s4 {w : World} {b : Nat} {s : St} (h : SAt w b s) (u : Int) : SAt (w.setCell ⟨b, 4, none⟩ (.int .i64 u)) b { s with P11 := u } := by
  unfold SAt at h ⊢
  exact heap_setCell_same w b 4 _ _ (.int .i64 u) h
theorem SAt.s5 {w : World} {b : Nat} {s : St} (h : SAt w b s) (u : Bool) : SAt (w.setCell ⟨b, 5, none⟩ (.bool u)) b { s with B := u } := by
  unfold SAt at h ⊢
  exact heap_setCell_same w b 5 _ _ (.bool u) h
theorem SAt.s6 {w : World} {b : Nat} {s : St} (h : SAt w b s) (u : Int) : SAt (w.setCell ⟨b, 6, none⟩ (.int .i64 u)) b { s with M := u } := by
  unfold SAt at h ⊢
  exact heap_setCell_same w b 6 _ _ (.int .i64 u) h
theorem SAt.new (w : World) (s : St) : SAt (w.alloc (.cells #[.int .i64 s.X, .int .i64 s.V, .int .i64 s.P00, .int .i64 s.P01, .int .i64 s.P11, .bool s.B, .int .i64 s.M] 25)) w.heap.size s := by
  unfold SAt
  show (w.heap.push _)[w.heap.size]? = _
  rw [Array.getElem?_push_size]
/-- The whole state is set. -/
theorem SAt.put {w : World} {b : Nat} {s : St} (h : SAt w b s) (t : St) : ∃ w', w' = (((((((w.setCell ⟨b, 0, none⟩ (.int .i64 t.X)).setCell ⟨b, 1, none⟩ (.int .i64 t.V)).setCell ⟨b, 2, none⟩ (.int .i64 t.P00)).setCell ⟨b, 3, none⟩ (.int .i64 t.P01)).setCell ⟨b, 4, none⟩ (.int .i64 t.P11)).setCell ⟨b, 5, none⟩ (.bool t.B)).setCell ⟨b, 6, none⟩ (.int .i64 t.M)) ∧ SAt w' b t ∧ Kept b w w' := by
  refine ⟨_, rfl, ?_, ?_⟩
  · exact (((((((h.s0 t.X).s1 t.V).s2 t.P00).s3 t.P01).s4 t.P11).s5 t.B).s6 t.M)
  · exact (((((((kept_set w b 0 _).trans (kept_set _ b 1 _) (Or.inl rfl)).trans (kept_set _ b 2 _) (Or.inl rfl)).trans (kept_set _ b 3 _) (Or.inl rfl)).trans (kept_set _ b 4 _) (Or.inl rfl)).trans (kept_set _ b 5 _) (Or.inl rfl)).trans (kept_set _ b 6 _) (Or.inl rfl))
/-- A state as one value. -/
abbrev stV (s : St) : Value := .agg #[.int .i64 s.X, .int .i64 s.V, .int .i64 s.P00, .int .i64 s.P01, .int .i64 s.P11, .bool s.B, .int .i64 s.M]
abbrev tnV (t : Tn) : Value := .agg #[.int .i64 t.Dt, .int .i64 t.Q, .int .i64 t.R, .int .i64 t.G]
/-- A hand with a pointer to a state. -/
abbrev hdV (b : Nat) : Value := .agg #[.pointer (some ⟨b, 0, none⟩)]

/-- A hand's variable. -/
def HbAt (w : World) (bh b : Nat) : Prop := w.heap[bh]? = some (.cells #[.pointer (some ⟨b, 0, none⟩)] 186 (0, 0))
theorem HbAt.c0 {w : World} {bh b : Nat} (h : HbAt w bh b) : w.cell? ⟨bh, 0, none⟩ = some (.pointer (some ⟨b, 0, none⟩)) := by
  unfold HbAt at h; unfold World.cell?; rw [h]; rfl
theorem HbAt.lt {w : World} {bh b : Nat} (h : HbAt w bh b) : bh < w.heap.size := lt_of_block h
theorem HbAt.same {w w' : World} {bh b : Nat} (h : HbAt w bh b) (e : w'.heap[bh]? = w.heap[bh]?) : HbAt w' bh b := e.trans h
theorem HbAt.kept {z : Nat} {w w' : World} {bh b : Nat} (h : HbAt w bh b) (k : Kept z w w') (hz : bh ≠ z) : HbAt w' bh b := h.same (k.block bh h.lt hz)
theorem HbAt.new (w : World) (b : Nat) : HbAt (w.alloc (.cells #[.pointer (some ⟨b, 0, none⟩)] 186)) w.heap.size b := by
  unfold HbAt
  show (w.heap.push _)[w.heap.size]? = _
  rw [Array.getElem?_push_size]
/-- What a hand's function starts with: its hand. -/
theorem hand_start {w : World} {b : Nat} {s : St} (h : SAt w b s) : ∃ w1, w1 = w.alloc (.cells #[.pointer (some ⟨b, 0, none⟩)] 186) ∧ HbAt w1 w.heap.size b ∧ SAt w1 b s ∧ Kept b w w1 ∧ w.heap.size ≠ b :=
  ⟨_, rfl, HbAt.new w b, h.below (al_below w _), al_kept w _, by have := h.lt; omega⟩
/-- A hand's variable and that of the old state, which stay. -/
structure Hd (bh b bo : Nat) (s : St) (w : World) : Prop where
  hand : HbAt w bh b
  old : SAt w bo s
  n1 : bh ≠ b
  n2 : bo ≠ b
theorem Hd.kept {bh b bo : Nat} {s : St} {w w' : World} (h : Hd bh b bo s w) (k : Kept b w w') : Hd bh b bo s w' := ⟨h.hand.kept k h.n1, h.old.kept k h.n2, h.n1, h.n2⟩
theorem Hd.drew {bh b bo : Nat} {s : St} {w : World} (h : Hd bh b bo s w) : Hd bh b bo s w.drew := ⟨h.hand, h.old, h.n1, h.n2⟩
def St.nil : St := ⟨0, 0, 0, 0, 0, false, 0⟩
def St.bend (s : St) (x : Bool) : St := { s with B := s.B || x }
def St.setX (s : St) (x : Int) : St := { s with X := x }
def St.setV (s : St) (x : Int) : St := { s with V := x }
def St.setP00 (s : St) (x : Int) : St := { s with P00 := x }
def St.setP01 (s : St) (x : Int) : St := { s with P01 := x }
def St.setP11 (s : St) (x : Int) : St := { s with P11 := x }
def St.setM (s : St) (x : Int) : St := { s with M := x }
theorem old_start {w : World} {b : Nat} {s : St} (h : SAt w b s) : ∃ w2, w2 = (w.alloc (.cells #[.pointer (some ⟨b, 0, none⟩)] 186)).alloc (.cells #[.int .i64 s.X, .int .i64 s.V, .int .i64 s.P00, .int .i64 s.P01, .int .i64 s.P11, .bool s.B, .int .i64 s.M] 25) ∧
    Hd w.heap.size b (w.heap.size + 1) s w2 ∧ SAt w2 b s ∧ Kept b w w2 := by
  obtain ⟨w1, e1, a1, s1, k1, n1⟩ := hand_start h
  have z1 : w1.heap.size = w.heap.size + 1 := by rw [e1]; exact al_size w _
  have h2 := SAt.new w1 s
  have k2 := al_kept (z := b) w1 (.cells #[.int .i64 s.X, .int .i64 s.V, .int .i64 s.P00, .int .i64 s.P01, .int .i64 s.P11, .bool s.B, .int .i64 s.M] 25)
  have k3 := al_below w1 (.cells #[.int .i64 s.X, .int .i64 s.V, .int .i64 s.P00, .int .i64 s.P01, .int .i64 s.P11, .bool s.B, .int .i64 s.M] 25)
  rw [z1] at h2
  have hl := h.lt
  refine ⟨_, by rw [← e1], ⟨a1.same (k3.block _ a1.lt), h2, n1, by omega⟩, s1.below k3, k1.trans k2 (Or.inl rfl)⟩
theorem SAt.pX {w : World} {b : Nat} {s : St} (h : SAt w b s) (u : Int) : ∃ w', w' = w.setCell ⟨b, 0, none⟩ (.int .i64 u) ∧ SAt w' b (s.setX u) ∧ Kept b w w' := ⟨_, rfl, h.s0 u, kept_set w b 0 _⟩
theorem SAt.pV {w : World} {b : Nat} {s : St} (h : SAt w b s) (u : Int) : ∃ w', w' = w.setCell ⟨b, 1, none⟩ (.int .i64 u) ∧ SAt w' b (s.setV u) ∧ Kept b w w' := ⟨_, rfl, h.s1 u, kept_set w b 1 _⟩
theorem SAt.pP00 {w : World} {b : Nat} {s : St} (h : SAt w b s) (u : Int) : ∃ w', w' = w.setCell ⟨b, 2, none⟩ (.int .i64 u) ∧ SAt w' b (s.setP00 u) ∧ Kept b w w' := ⟨_, rfl, h.s2 u, kept_set w b 2 _⟩
theorem SAt.pP01 {w : World} {b : Nat} {s : St} (h : SAt w b s) (u : Int) : ∃ w', w' = w.setCell ⟨b, 3, none⟩ (.int .i64 u) ∧ SAt w' b (s.setP01 u) ∧ Kept b w w' := ⟨_, rfl, h.s3 u, kept_set w b 3 _⟩
theorem SAt.pP11 {w : World} {b : Nat} {s : St} (h : SAt w b s) (u : Int) : ∃ w', w' = w.setCell ⟨b, 4, none⟩ (.int .i64 u) ∧ SAt w' b (s.setP11 u) ∧ Kept b w w' := ⟨_, rfl, h.s4 u, kept_set w b 4 _⟩
def St.setB (s : St) (x : Bool) : St := { s with B := x }
theorem SAt.pB {w : World} {b : Nat} {s : St} (h : SAt w b s) (u : Bool) : ∃ w', w' = w.setCell ⟨b, 5, none⟩ (.bool u) ∧ SAt w' b (s.setB u) ∧ Kept b w w' := ⟨_, rfl, h.s5 u, kept_set w b 5 _⟩
theorem SAt.pM {w : World} {b : Nat} {s : St} (h : SAt w b s) (u : Int) : ∃ w', w' = w.setCell ⟨b, 6, none⟩ (.int .i64 u) ∧ SAt w' b (s.setM u) ∧ Kept b w w' := ⟨_, rfl, h.s6 u, kept_set w b 6 _⟩

end Go.Proofs.YthimcecbgpamdaaGreat

namespace Go.Proofs.YthimcecbgpamdaaGreat
open Go.RowKit

set_option maxHeartbeats 400000 in
theorem mul_any (a b : Int) (ha : R64 a) (hb : R64 b) (w : World) :
    Calls Tryz.prog 180 #[.int .i64 a, .int .i64 b] w fun e w' => e = .returned (.tuple #[.int .i64 (clampZ (mulQ a b)), .bool (bentZ (mulQ a b))]) ∧ w' = w := by
  have Ha := hide ha; have Hb := hide hb
  have p0 := (absmul_bd ha hb).1
  have p1 := (absmul_bd ha hb).2
  obtain ⟨x0, x1⟩ := absZ_bd ha
  obtain ⟨y0, y1⟩ := absZ_bd hb
  obtain ⟨a1, a2⟩ := ha; obtain ⟨b1, b2⟩ := hb
  go_enter Tryz.func180, Tryz.ntmps180
  go_wp2_with fail
  refine (size_any a (unhide Ha) _).mono ?_
  rintro e w1 ⟨rfl, rfl⟩
  go_wp2_with fail
  refine (size_any b (unhide Hb) _).mono ?_
  rintro e w2 ⟨rfl, rfl⟩
  go_wp2_with fail
  refine (mul64_any (absZ a) (absZ b) x0 (by omega) y0 (by omega) _).mono ?_
  rintro e w3 ⟨rfl, rfl⟩
  go_wp2_with fail
  have hq := mulQ_abs a b
  generalize hn : (!decide (a < 0) == decide (b < 0)) = n
  rw [show negZ a b = n from hn] at hq
  clear hn
  generalize absZ a * absZ b = p at *
  have HQ := hide hq
  clear hq
  refine (half_any _ _).mono ?_
  rintro e w4 ⟨rfl, rfl⟩
  obtain ⟨h0, h1⟩ := halfZ_bd n
  generalize halfZ n = h at *
  go_wp2_with (simp only [add64_0 (p % 18446744073709551616) h (by omega) h0])
  · have ho := mul_over p h p0 h0 (by assumption)
    refine (end_any n _).mono ?_
    rintro e w5 ⟨rfl, rfl⟩
    go_wp2_with fail
    go_ret2
    exact ⟨by rw [unhide HQ, (end_over n _ (by omega)).1, (end_over n _ (by omega)).2]; rfl, rfl⟩
  · have hj := mul_join p h p0 h0 (by assumption)
    rw [hj.1]
    refine (stop_any n _ (by omega) hj.2 _).mono ?_
    rintro e w5 ⟨rfl, rfl⟩
    clear hj
    go_wp2_with fail
    go_ret2
    exact ⟨by rw [unhide HQ]; rfl, rfl⟩

end Go.Proofs.YthimcecbgpamdaaGreat

namespace Go.Proofs.YthimcecbgpamdaaGreat
open Go.RowKit

set_option maxHeartbeats 400000 in
theorem hNote_any (b : Nat) (s : St) (n : Int) (y : Bool) (w : World) (h : SAt w b s) :
    Calls Tryz.prog 177 #[hdV b, .int .i64 n, .bool y] w fun e w' =>
      e = .returned (.int .i64 n) ∧ SAt w' b (s.bend y) ∧ Kept b w w' := by
  obtain ⟨w1, e1, a1, s1, k1, n1⟩ := hand_start h
  have q0 := a1.c0
  have c5 := s1.c5; have f5 := s1.free 5
  have H := hide s1; have E1 := hide e1; have K1 := hide k1
  clear h s1 a1 e1 k1 n1
  have G : (∃ x, x = s.B) := ⟨_, rfl⟩
  obtain ⟨x, ex⟩ := G
  rw [← ex] at c5
  have EX := hide ex
  clear ex
  cases x
  · go_enter Tryz.func177, Tryz.ntmps177
    go_wp2_with fail
    rw [← unhide E1]
    go_region
    go_wp2_with fail
    go_ret
    refine ⟨rfl, ?_, ((unhide K1).trans (kept_drew _) (Or.inl rfl)).trans (kept_set _ _ _ _) (Or.inl rfl)⟩
    have := (unhide H).s5 (s.B || y)
    rw [← unhide EX] at this
    unfold St.bend
    rw [← unhide EX]
    exact this
  · go_enter Tryz.func177, Tryz.ntmps177
    go_wp2_with fail
    rw [← unhide E1]
    go_region
    go_wp2_with fail
    go_ret
    refine ⟨rfl, ?_, ((unhide K1).trans (kept_drew _) (Or.inl rfl)).trans (kept_set _ _ _ _) (Or.inl rfl)⟩
    have := (unhide H).s5 (s.B || y)
    rw [← unhide EX] at this
    unfold St.bend
    rw [← unhide EX]
    exact this


set_option maxHeartbeats 400000 in
theorem hAdd_any (b : Nat) (s : St) (a c : Int) (w : World) (ha : R64 a) (hc : R64 c) (h : SAt w b s) :
    Calls Tryz.prog 151 #[hdV b, .int .i64 a, .int .i64 c] w fun e w' =>
      e = .returned (.int .i64 (adV a c)) ∧ SAt w' b (s.bend (adB a c)) ∧ Kept b w w' := by
  obtain ⟨w1, e1, a1, s1, k1, n1⟩ := hand_start h
  have HA := hide ha; have HC := hide hc; have H := hide s1; have E1 := hide e1; have K1 := hide k1; have N1 := hide n1
  have hS : (fun u => HbAt u w.heap.size b) w1.drew := a1
  clear ha hc h a1 e1 s1 k1 n1
  go_enter Tryz.func151, Tryz.ntmps151
  go_wp2_with fail
  rw [← unhide E1]
  refine region_by (S := fun u => HbAt u w.heap.size b) [(0, false), (1, false), (2, false), (3, true), (4, false), (5, false), (6, true), (7, true)] [] (by kernel_rfl) (by kernel_rfl) ?_
  iterate 3
    refine seq_read (v := ?_) rfl (fun _ _ _ h => h) (by rfl) hS ?_ ?_
    rotate_left 1
    · intro wx hwx
      have q0 := HbAt.c0 hwx
      go_simp <;> exact rfl
    go_frame
  refine seq_do rfl (fun K hK => ?_)
  go_simp
  refine (add_any a c (unhide HA) (unhide HC) _).mono ?_
  rintro e w2 ⟨rfl, rfl⟩
  refine hK _ _ (fun _ => hS) ?_
  clear hK K
  iterate 2
    refine seq_read (v := ?_) rfl (fun _ _ _ h => h) (by rfl) hS ?_ ?_
    rotate_left 1
    · intro wx hwx
      clear hwx
      go_simp <;> exact rfl
    go_frame
  refine seq_do rfl (fun K hK => ?_)
  go_simp
  refine (hNote_any b s _ _ _ (SAt.drewN (unhide H) _)).mono ?_
  rintro e w3 ⟨rfl, h3, k3⟩
  have hS3 := HbAt.kept hS k3 (unhide N1)
  refine hK _ _ (fun _ => hS3) ?_
  have H3 := hide h3; have K3 := hide (((unhide K1).trans (kept_drewN _ 1) (Or.inl rfl)).trans k3 (Or.inl rfl))
  clear h3 k3 hK K hS
  refine seq_do rfl (fun K hK => ?_)
  go_simp
  refine hK _ _ (fun _ => hS3) ?_
  clear hK K hS3
  refine seq_end ?_
  go_wp2_with fail
  go_ret
  exact ⟨rfl, unhide H3, unhide K3⟩

set_option maxHeartbeats 400000 in
theorem hSub_any (b : Nat) (s : St) (a c : Int) (w : World) (ha : R64 a) (hc : R64 c) (h : SAt w b s) :
    Calls Tryz.prog 150 #[hdV b, .int .i64 a, .int .i64 c] w fun e w' =>
      e = .returned (.int .i64 (sbC a c)) ∧ SAt w' b (s.bend (sbE a c)) ∧ Kept b w w' := by
  obtain ⟨w1, e1, a1, s1, k1, n1⟩ := hand_start h
  have HA := hide ha; have HC := hide hc; have H := hide s1; have E1 := hide e1; have K1 := hide k1; have N1 := hide n1
  have hS : (fun u => HbAt u w.heap.size b) w1.drew := a1
  clear ha hc h a1 e1 s1 k1 n1
  go_enter Tryz.func150, Tryz.ntmps150
  go_wp2_with fail
  rw [← unhide E1]
  refine region_by (S := fun u => HbAt u w.heap.size b) [(0, false), (1, false), (2, false), (3, true), (4, false), (5, false), (6, true), (7, true)] [] (by kernel_rfl) (by kernel_rfl) ?_
  iterate 3
    refine seq_read (v := ?_) rfl (fun _ _ _ h => h) (by rfl) hS ?_ ?_
    rotate_left 1
    · intro wx hwx
      have q0 := HbAt.c0 hwx
      go_simp <;> exact rfl
    go_frame
  refine seq_do rfl (fun K hK => ?_)
  go_simp
  refine (sub_any a c (unhide HA) (unhide HC) _).mono ?_
  rintro e w2 ⟨rfl, rfl⟩
  refine hK _ _ (fun _ => hS) ?_
  clear hK K
  iterate 2
    refine seq_read (v := ?_) rfl (fun _ _ _ h => h) (by rfl) hS ?_ ?_
    rotate_left 1
    · intro wx hwx
      clear hwx
      go_simp <;> exact rfl
    go_frame
  refine seq_do rfl (fun K hK => ?_)
  go_simp
  refine (hNote_any b s _ _ _ (SAt.drewN (unhide H) _)).mono ?_
  rintro e w3 ⟨rfl, h3, k3⟩
  have hS3 := HbAt.kept hS k3 (unhide N1)
  refine hK _ _ (fun _ => hS3) ?_
  have H3 := hide h3; have K3 := hide (((unhide K1).trans (kept_drewN _ 1) (Or.inl rfl)).trans k3 (Or.inl rfl))
  clear h3 k3 hK K hS
  refine seq_do rfl (fun K hK => ?_)
  go_simp
  refine hK _ _ (fun _ => hS3) ?_
  clear hK K hS3
  refine seq_end ?_
  go_wp2_with fail
  go_ret
  exact ⟨rfl, unhide H3, unhide K3⟩

set_option maxHeartbeats 400000 in
theorem hMul_any (b : Nat) (s : St) (a c : Int) (w : World) (ha : R64 a) (hc : R64 c) (h : SAt w b s) :
    Calls Tryz.prog 152 #[hdV b, .int .i64 a, .int .i64 c] w fun e w' =>
      e = .returned (.int .i64 (muV a c)) ∧ SAt w' b (s.bend (muB a c)) ∧ Kept b w w' := by
  obtain ⟨w1, e1, a1, s1, k1, n1⟩ := hand_start h
  have HA := hide ha; have HC := hide hc; have H := hide s1; have E1 := hide e1; have K1 := hide k1; have N1 := hide n1
  have hS : (fun u => HbAt u w.heap.size b) w1.drew := a1
  clear ha hc h a1 e1 s1 k1 n1
  go_enter Tryz.func152, Tryz.ntmps152
  go_wp2_with fail
  rw [← unhide E1]
  refine region_by (S := fun u => HbAt u w.heap.size b) [(0, false), (1, false), (2, false), (3, true), (4, false), (5, false), (6, true), (7, true)] [] (by kernel_rfl) (by kernel_rfl) ?_
  iterate 3
    refine seq_read (v := ?_) rfl (fun _ _ _ h => h) (by rfl) hS ?_ ?_
    rotate_left 1
    · intro wx hwx
      have q0 := HbAt.c0 hwx
      go_simp <;> exact rfl
    go_frame
  refine seq_do rfl (fun K hK => ?_)
  go_simp
  refine (mul_any a c (unhide HA) (unhide HC) _).mono ?_
  rintro e w2 ⟨rfl, rfl⟩
  refine hK _ _ (fun _ => hS) ?_
  clear hK K
  iterate 2
    refine seq_read (v := ?_) rfl (fun _ _ _ h => h) (by rfl) hS ?_ ?_
    rotate_left 1
    · intro wx hwx
      clear hwx
      go_simp <;> exact rfl
    go_frame
  refine seq_do rfl (fun K hK => ?_)
  go_simp
  refine (hNote_any b s _ _ _ (SAt.drewN (unhide H) _)).mono ?_
  rintro e w3 ⟨rfl, h3, k3⟩
  have hS3 := HbAt.kept hS k3 (unhide N1)
  refine hK _ _ (fun _ => hS3) ?_
  have H3 := hide h3; have K3 := hide (((unhide K1).trans (kept_drewN _ 1) (Or.inl rfl)).trans k3 (Or.inl rfl))
  clear h3 k3 hK K hS
  refine seq_do rfl (fun K hK => ?_)
  go_simp
  refine hK _ _ (fun _ => hS3) ?_
  clear hK K hS3
  refine seq_end ?_
  go_wp2_with fail
  go_ret
  exact ⟨rfl, unhide H3, unhide K3⟩

set_option maxHeartbeats 400000 in
theorem hDiv_any (b : Nat) (s : St) (a c : Int) (w : World) (ha : R64 a) (hc : R64 c) (h : SAt w b s) :
    Calls Tryz.prog 181 #[hdV b, .int .i64 a, .int .i64 c] w fun e w' =>
      e = .returned (.int .i64 (divV a c)) ∧ SAt w' b (s.bend (divB a c)) ∧ Kept b w w' := by
  obtain ⟨w1, e1, a1, s1, k1, n1⟩ := hand_start h
  have HA := hide ha; have HC := hide hc; have H := hide s1; have E1 := hide e1; have K1 := hide k1; have N1 := hide n1
  have hS : (fun u => HbAt u w.heap.size b) w1.drew := a1
  clear ha hc h a1 e1 s1 k1 n1
  go_enter Tryz.func181, Tryz.ntmps181
  go_wp2_with fail
  rw [← unhide E1]
  refine region_by (S := fun u => HbAt u w.heap.size b) [(0, false), (1, false), (2, false), (3, true), (4, false), (5, false), (6, true), (7, true)] [] (by kernel_rfl) (by kernel_rfl) ?_
  iterate 3
    refine seq_read (v := ?_) rfl (fun _ _ _ h => h) (by rfl) hS ?_ ?_
    rotate_left 1
    · intro wx hwx
      have q0 := HbAt.c0 hwx
      go_simp <;> exact rfl
    go_frame
  refine seq_do rfl (fun K hK => ?_)
  go_simp
  refine (div_any a c (unhide HA) (unhide HC) _).mono ?_
  rintro e w2 ⟨k, rfl, rfl⟩
  refine hK _ _ (fun _ => hS) ?_
  clear hK K
  iterate 2
    refine seq_read (v := ?_) rfl (fun _ _ _ h => h) (by rfl) hS ?_ ?_
    rotate_left 1
    · intro wx hwx
      clear hwx
      go_simp <;> exact rfl
    go_frame
  refine seq_do rfl (fun K hK => ?_)
  go_simp
  refine (hNote_any b s _ _ _ (SAt.drewN (unhide H) _)).mono ?_
  rintro e w3 ⟨rfl, h3, k3⟩
  have hS3 := HbAt.kept (w := w1.drewN (1 + k)) hS k3 (unhide N1)
  refine hK _ _ (fun _ => hS3) ?_
  have H3 := hide h3; have K3 := hide (((unhide K1).trans (kept_drewN _ (1 + k)) (Or.inl rfl)).trans k3 (Or.inl rfl))
  clear h3 k3 hK K hS
  refine seq_do rfl (fun K hK => ?_)
  go_simp
  refine hK _ _ (fun _ => hS3) ?_
  clear hK K hS3
  refine seq_end ?_
  go_wp2_with fail
  go_ret
  exact ⟨rfl, unhide H3, unhide K3⟩

end Go.Proofs.YthimcecbgpamdaaGreat

namespace Go.Proofs.YthimcecbgpamdaaGreat
open Go.RowKit

set_option maxHeartbeats 2000000 in
theorem hPredict_any (b : Nat) (s : St) (dt q : Int) (w : World) (hs : s.Ok) (hdt : R64 dt) (hq : R64 q) (h : SAt w b s) :
    Calls Tryz.prog 125 #[hdV b, .int .i64 dt, .int .i64 q] w fun e w' => e = .returned (.tuple #[]) ∧ SAt w' b (predS s dt q) ∧ Kept b w w' := by
  obtain ⟨w1, e1, d1, s1, k1⟩ := old_start h
  have OK := hide hs; have E1 := hide e1; have D1 := hide d1; have S1 := hide s1; have K1 := hide k1
  have Rdt := hide hdt
  have Rq := hide hq
  have a0 := h.c0; have a1 := h.c1; have a2 := h.c2; have a3 := h.c3; have a4 := h.c4; have a5 := h.c5; have a6 := h.c6; have lb := h.lt
  clear hs e1 d1 s1 k1 h hdt hq
  go_enter Tryz.func125, Tryz.ntmps125
  go_wp2_with fail
  rw [← unhide E1]
  clear a0 a1 a2 a3 a4 a5 a6
  refine (hMul_any b _ s.P01 dt _ (unhide OK).P01 (unhide Rdt) (unhide S1)).mono ?_
  rintro e w2 ⟨rfl, h, k⟩
  have D2 := hide ((unhide D1).kept k)
  clear D1
  have S2 := hide h; have K2 := hide ((unhide K1).trans k (Or.inl rfl))
  clear h k S1 K1
  have q0 := (unhide D2).hand.c0
  have c4 := (unhide D2).old.c4
  go_wp2_with fail
  clear q0 c4
  refine (hMul_any b _ s.P11 dt _ (unhide OK).P11 (unhide Rdt) (unhide S2)).mono ?_
  rintro e w3 ⟨rfl, h, k⟩
  have D3 := hide ((unhide D2).kept k)
  clear D2
  have S3 := hide h; have K3 := hide ((unhide K2).trans k (Or.inl rfl))
  clear h k S2 K2
  have q0 := (unhide D3).hand.c0
  go_wp2_with fail
  clear q0
  have hS3 : Hd w.heap.size b (w.heap.size + 1) s w3.drew := (unhide D3).drew
  clear D3
  refine region_by (S := Hd w.heap.size b (w.heap.size + 1) s) [(0, false), (1, false), (2, false), (3, false), (4, false), (5, false), (6, false), (7, false), (8, false), (9, true), (10, true), (11, false), (12, false), (13, true)] [] (by kernel_rfl) (by kernel_rfl) ?_
  iterate 9
    refine seq_read (v := ?_) rfl (fun _ _ _ h => h) (by rfl) hS3 ?_ ?_
    rotate_left 1
    · intro wx hwx
      have q0 := hwx.hand.c0; have c0 := hwx.old.c0; have c1 := hwx.old.c1; have c2 := hwx.old.c2; have c3 := hwx.old.c3; have c4 := hwx.old.c4
      clear hwx
      go_simp <;> exact rfl
    go_frame
  refine seq_do rfl (fun K hK => ?_)
  go_simp
  refine (hMul_any b _ s.V dt _ (unhide OK).V (unhide Rdt) (SAt.drewN (unhide S3) 1)).mono ?_
  rintro e w4 ⟨rfl, h, k⟩
  have hS4 := hS3.kept k
  refine hK _ _ (fun _ => hS4) ?_
  clear hK K hS3
  have S4 := hide h; have K4 := hide (((unhide K3).trans (kept_drewN _ 1) (Or.inl rfl)).trans k (Or.inl rfl))
  clear h k S3 K3
  refine seq_do rfl (fun K hK => ?_)
  go_simp
  refine (hAdd_any b _ s.X (muV s.V dt) _ (unhide OK).X (muV_R _ _) (unhide S4)).mono ?_
  rintro e w5 ⟨rfl, h, k⟩
  have hS5 := hS4.kept k
  refine hK _ _ (fun _ => hS5) ?_
  clear hK K hS4
  have S5 := hide h; have K5 := hide ((unhide K4).trans k (Or.inl rfl))
  clear h k S4 K4
  iterate 2
    refine seq_read (v := ?_) rfl (fun _ _ _ h => h) (by rfl) hS5 ?_ ?_
    rotate_left 1
    · intro wx hwx
      have q0 := hwx.hand.c0; have c0 := hwx.old.c0; have c1 := hwx.old.c1; have c2 := hwx.old.c2; have c3 := hwx.old.c3; have c4 := hwx.old.c4
      clear hwx
      go_simp <;> exact rfl
    go_frame
  obtain ⟨w6, e4, h, k⟩ := (unhide S5).pX (adV s.X (muV s.V dt))
  have c := (unhide S5).c0; have f := (unhide S5).free 0
  refine seq_do rfl (fun K hK => ?_)
  go_simp
  rw [← e4]
  have D6 := hide (hS5.kept k)
  refine hK _ _ (fun _ => (unhide D6)) ?_
  have S6 := hide h; have K6 := hide ((unhide K5).trans k (Or.inl rfl))
  clear hK K e4 h k c f hS5 S5 K5
  refine seq_end ?_
  have q0 := (unhide D6).hand.c0
  go_wp2_with fail
  clear q0
  have hS6 : Hd w.heap.size b (w.heap.size + 1) s w6.drew := (unhide D6).drew
  clear D6
  refine region_by (S := Hd w.heap.size b (w.heap.size + 1) s) [(0, false), (1, false), (2, false), (3, false), (4, false), (5, false), (6, false), (7, false), (9, false), (11, false), (12, false), (13, false), (8, true), (10, true), (14, true), (15, true), (16, false), (17, false), (18, true)] [] (by kernel_rfl) (by kernel_rfl) ?_
  iterate 12
    refine seq_read (v := ?_) rfl (fun _ _ _ h => h) (by rfl) hS6 ?_ ?_
    rotate_left 1
    · intro wx hwx
      have q0 := hwx.hand.c0; have c0 := hwx.old.c0; have c1 := hwx.old.c1; have c2 := hwx.old.c2; have c3 := hwx.old.c3; have c4 := hwx.old.c4
      clear hwx
      go_simp <;> exact rfl
    go_frame
  refine seq_do rfl (fun K hK => ?_)
  go_simp
  refine (hAdd_any b _ s.P00 (muV s.P01 dt) _ (unhide OK).P00 (muV_R _ _) (SAt.drewN (unhide S6) 1)).mono ?_
  rintro e w7 ⟨rfl, h, k⟩
  have hS7 := hS6.kept k
  refine hK _ _ (fun _ => hS7) ?_
  clear hK K hS6
  have S7 := hide h; have K7 := hide (((unhide K6).trans (kept_drewN _ 1) (Or.inl rfl)).trans k (Or.inl rfl))
  clear h k S6 K6
  refine seq_do rfl (fun K hK => ?_)
  go_simp
  refine (hAdd_any b _ (adV s.P00 (muV s.P01 dt)) (muV s.P01 dt) _ (adV_R _ _) (muV_R _ _) (unhide S7)).mono ?_
  rintro e w8 ⟨rfl, h, k⟩
  have hS8 := hS7.kept k
  refine hK _ _ (fun _ => hS8) ?_
  clear hK K hS7
  have S8 := hide h; have K8 := hide ((unhide K7).trans k (Or.inl rfl))
  clear h k S7 K7
  refine seq_do rfl (fun K hK => ?_)
  go_simp
  refine (hMul_any b _ (muV s.P11 dt) dt _ (muV_R _ _) (unhide Rdt) (unhide S8)).mono ?_
  rintro e w9 ⟨rfl, h, k⟩
  have hS9 := hS8.kept k
  refine hK _ _ (fun _ => hS9) ?_
  clear hK K hS8
  have S9 := hide h; have K9 := hide ((unhide K8).trans k (Or.inl rfl))
  clear h k S8 K8
  refine seq_do rfl (fun K hK => ?_)
  go_simp
  refine (hAdd_any b _ (adV (adV s.P00 (muV s.P01 dt)) (muV s.P01 dt)) (muV (muV s.P11 dt) dt) _ (adV_R _ _) (muV_R _ _) (unhide S9)).mono ?_
  rintro e w10 ⟨rfl, h, k⟩
  have hS10 := hS9.kept k
  refine hK _ _ (fun _ => hS10) ?_
  clear hK K hS9
  have S10 := hide h; have K10 := hide ((unhide K9).trans k (Or.inl rfl))
  clear h k S9 K9
  iterate 2
    refine seq_read (v := ?_) rfl (fun _ _ _ h => h) (by rfl) hS10 ?_ ?_
    rotate_left 1
    · intro wx hwx
      have q0 := hwx.hand.c0; have c0 := hwx.old.c0; have c1 := hwx.old.c1; have c2 := hwx.old.c2; have c3 := hwx.old.c3; have c4 := hwx.old.c4
      clear hwx
      go_simp <;> exact rfl
    go_frame
  obtain ⟨w11, e4, h, k⟩ := (unhide S10).pP00 (adV (adV (adV s.P00 (muV s.P01 dt)) (muV s.P01 dt)) (muV (muV s.P11 dt) dt))
  have c := (unhide S10).c2; have f := (unhide S10).free 2
  refine seq_do rfl (fun K hK => ?_)
  go_simp
  rw [← e4]
  have D11 := hide (hS10.kept k)
  refine hK _ _ (fun _ => (unhide D11)) ?_
  have S11 := hide h; have K11 := hide ((unhide K10).trans k (Or.inl rfl))
  clear hK K e4 h k c f hS10 S10 K10
  refine seq_end ?_
  have q0 := (unhide D11).hand.c0
  go_wp2_with fail
  clear q0
  have hS11 : Hd w.heap.size b (w.heap.size + 1) s w11.drew := (unhide D11).drew
  clear D11
  refine region_by (S := Hd w.heap.size b (w.heap.size + 1) s) [(0, false), (1, false), (2, false), (3, false), (4, false), (5, false), (6, true), (7, false), (8, false), (9, true)] [] (by kernel_rfl) (by kernel_rfl) ?_
  iterate 6
    refine seq_read (v := ?_) rfl (fun _ _ _ h => h) (by rfl) hS11 ?_ ?_
    rotate_left 1
    · intro wx hwx
      have q0 := hwx.hand.c0; have c0 := hwx.old.c0; have c1 := hwx.old.c1; have c2 := hwx.old.c2; have c3 := hwx.old.c3; have c4 := hwx.old.c4
      clear hwx
      go_simp <;> exact rfl
    go_frame
  refine seq_do rfl (fun K hK => ?_)
  go_simp
  refine (hAdd_any b _ s.P01 (muV s.P11 dt) _ (unhide OK).P01 (muV_R _ _) (SAt.drewN (unhide S11) 1)).mono ?_
  rintro e w12 ⟨rfl, h, k⟩
  have hS12 := hS11.kept k
  refine hK _ _ (fun _ => hS12) ?_
  clear hK K hS11
  have S12 := hide h; have K12 := hide (((unhide K11).trans (kept_drewN _ 1) (Or.inl rfl)).trans k (Or.inl rfl))
  clear h k S11 K11
  iterate 2
    refine seq_read (v := ?_) rfl (fun _ _ _ h => h) (by rfl) hS12 ?_ ?_
    rotate_left 1
    · intro wx hwx
      have q0 := hwx.hand.c0; have c0 := hwx.old.c0; have c1 := hwx.old.c1; have c2 := hwx.old.c2; have c3 := hwx.old.c3; have c4 := hwx.old.c4
      clear hwx
      go_simp <;> exact rfl
    go_frame
  obtain ⟨w13, e4, h, k⟩ := (unhide S12).pP01 (adV s.P01 (muV s.P11 dt))
  have c := (unhide S12).c3; have f := (unhide S12).free 3
  refine seq_do rfl (fun K hK => ?_)
  go_simp
  rw [← e4]
  have D13 := hide (hS12.kept k)
  refine hK _ _ (fun _ => (unhide D13)) ?_
  have S13 := hide h; have K13 := hide ((unhide K12).trans k (Or.inl rfl))
  clear hK K e4 h k c f hS12 S12 K12
  refine seq_end ?_
  have q0 := (unhide D13).hand.c0
  go_wp2_with fail
  clear q0
  have hS13 : Hd w.heap.size b (w.heap.size + 1) s w13.drew := (unhide D13).drew
  clear D13
  refine region_by (S := Hd w.heap.size b (w.heap.size + 1) s) [(0, false), (1, false), (2, false), (3, false), (4, false), (5, false), (6, true), (7, false), (8, false), (9, true)] [] (by kernel_rfl) (by kernel_rfl) ?_
  iterate 6
    refine seq_read (v := ?_) rfl (fun _ _ _ h => h) (by rfl) hS13 ?_ ?_
    rotate_left 1
    · intro wx hwx
      have q0 := hwx.hand.c0; have c0 := hwx.old.c0; have c1 := hwx.old.c1; have c2 := hwx.old.c2; have c3 := hwx.old.c3; have c4 := hwx.old.c4
      clear hwx
      go_simp <;> exact rfl
    go_frame
  refine seq_do rfl (fun K hK => ?_)
  go_simp
  refine (hAdd_any b _ s.P11 q _ (unhide OK).P11 (unhide Rq) (SAt.drewN (unhide S13) 1)).mono ?_
  rintro e w14 ⟨rfl, h, k⟩
  have hS14 := hS13.kept k
  refine hK _ _ (fun _ => hS14) ?_
  clear hK K hS13
  have S14 := hide h; have K14 := hide (((unhide K13).trans (kept_drewN _ 1) (Or.inl rfl)).trans k (Or.inl rfl))
  clear h k S13 K13
  iterate 2
    refine seq_read (v := ?_) rfl (fun _ _ _ h => h) (by rfl) hS14 ?_ ?_
    rotate_left 1
    · intro wx hwx
      have q0 := hwx.hand.c0; have c0 := hwx.old.c0; have c1 := hwx.old.c1; have c2 := hwx.old.c2; have c3 := hwx.old.c3; have c4 := hwx.old.c4
      clear hwx
      go_simp <;> exact rfl
    go_frame
  obtain ⟨w15, e4, h, k⟩ := (unhide S14).pP11 (adV s.P11 q)
  have c := (unhide S14).c4; have f := (unhide S14).free 4
  refine seq_do rfl (fun K hK => ?_)
  go_simp
  rw [← e4]
  have D15 := hide (hS14.kept k)
  refine hK _ _ (fun _ => (unhide D15)) ?_
  have S15 := hide h; have K15 := hide ((unhide K14).trans k (Or.inl rfl))
  clear hK K e4 h k c f hS14 S14 K14
  refine seq_end ?_
  go_wp2_with fail
  go_end0
  exact ⟨rfl, unhide S15, unhide K15⟩

end Go.Proofs.YthimcecbgpamdaaGreat

namespace Go.Proofs.YthimcecbgpamdaaGreat
open Go.RowKit

set_option maxHeartbeats 2000000 in
theorem hTake_any (b : Nat) (s : St) (y d : Int) (w : World) (hs : s.Ok) (hy : R64 y) (hd : R64 d) (h : SAt w b s) :
    Calls Tryz.prog 153 #[hdV b, .int .i64 y, .int .i64 d] w fun e w' => e = .returned (.tuple #[]) ∧ SAt w' b (takeS s y d) ∧ Kept b w w' := by
  obtain ⟨w1, e1, d1, s1, k1⟩ := old_start h
  have OK := hide hs; have E1 := hide e1; have D1 := hide d1; have S1 := hide s1; have K1 := hide k1
  have Ry := hide hy
  have Rd := hide hd
  have a0 := h.c0; have a1 := h.c1; have a2 := h.c2; have a3 := h.c3; have a4 := h.c4; have a5 := h.c5; have a6 := h.c6; have lb := h.lt
  clear hs e1 d1 s1 k1 h hy hd
  go_enter Tryz.func153, Tryz.ntmps153
  go_wp2_with fail
  rw [← unhide E1]
  clear a0 a1 a2 a3 a4 a5 a6
  refine (hDiv_any b _ s.P00 d _ (unhide OK).P00 (unhide Rd) (unhide S1)).mono ?_
  rintro e w2 ⟨rfl, h, k⟩
  have D2 := hide ((unhide D1).kept k)
  clear D1
  have S2 := hide h; have K2 := hide ((unhide K1).trans k (Or.inl rfl))
  clear h k S1 K1
  have q0 := (unhide D2).hand.c0
  have c3 := (unhide D2).old.c3
  go_wp2_with fail
  clear q0 c3
  refine (hDiv_any b _ s.P01 d _ (unhide OK).P01 (unhide Rd) (unhide S2)).mono ?_
  rintro e w3 ⟨rfl, h, k⟩
  have D3 := hide ((unhide D2).kept k)
  clear D2
  have S3 := hide h; have K3 := hide ((unhide K2).trans k (Or.inl rfl))
  clear h k S2 K2
  have q0 := (unhide D3).hand.c0
  go_wp2_with fail
  clear q0
  have hS3 : Hd w.heap.size b (w.heap.size + 1) s w3.drew := (unhide D3).drew
  clear D3
  refine region_by (S := Hd w.heap.size b (w.heap.size + 1) s) [(0, false), (1, false), (2, false), (3, false), (4, false), (5, false), (6, false), (7, false), (8, true), (9, true), (10, false), (11, false), (12, true)] [] (by kernel_rfl) (by kernel_rfl) ?_
  iterate 8
    refine seq_read (v := ?_) rfl (fun _ _ _ h => h) (by rfl) hS3 ?_ ?_
    rotate_left 1
    · intro wx hwx
      have q0 := hwx.hand.c0; have c0 := hwx.old.c0; have c1 := hwx.old.c1; have c2 := hwx.old.c2; have c3 := hwx.old.c3; have c4 := hwx.old.c4
      clear hwx
      go_simp <;> exact rfl
    go_frame
  refine seq_do rfl (fun K hK => ?_)
  go_simp
  refine (hMul_any b _ (divV s.P00 d) y _ (quot_R _ _) (unhide Ry) (SAt.drewN (unhide S3) 1)).mono ?_
  rintro e w4 ⟨rfl, h, k⟩
  have hS4 := hS3.kept k
  refine hK _ _ (fun _ => hS4) ?_
  clear hK K hS3
  have S4 := hide h; have K4 := hide (((unhide K3).trans (kept_drewN _ 1) (Or.inl rfl)).trans k (Or.inl rfl))
  clear h k S3 K3
  refine seq_do rfl (fun K hK => ?_)
  go_simp
  refine (hAdd_any b _ s.X (muV (divV s.P00 d) y) _ (unhide OK).X (muV_R _ _) (unhide S4)).mono ?_
  rintro e w5 ⟨rfl, h, k⟩
  have hS5 := hS4.kept k
  refine hK _ _ (fun _ => hS5) ?_
  clear hK K hS4
  have S5 := hide h; have K5 := hide ((unhide K4).trans k (Or.inl rfl))
  clear h k S4 K4
  iterate 2
    refine seq_read (v := ?_) rfl (fun _ _ _ h => h) (by rfl) hS5 ?_ ?_
    rotate_left 1
    · intro wx hwx
      have q0 := hwx.hand.c0; have c0 := hwx.old.c0; have c1 := hwx.old.c1; have c2 := hwx.old.c2; have c3 := hwx.old.c3; have c4 := hwx.old.c4
      clear hwx
      go_simp <;> exact rfl
    go_frame
  obtain ⟨w6, e4, h, k⟩ := (unhide S5).pX (adV s.X (muV (divV s.P00 d) y))
  have c := (unhide S5).c0; have f := (unhide S5).free 0
  refine seq_do rfl (fun K hK => ?_)
  go_simp
  rw [← e4]
  have D6 := hide (hS5.kept k)
  refine hK _ _ (fun _ => (unhide D6)) ?_
  have S6 := hide h; have K6 := hide ((unhide K5).trans k (Or.inl rfl))
  clear hK K e4 h k c f hS5 S5 K5
  refine seq_end ?_
  have q0 := (unhide D6).hand.c0
  go_wp2_with fail
  clear q0
  have hS6 : Hd w.heap.size b (w.heap.size + 1) s w6.drew := (unhide D6).drew
  clear D6
  refine region_by (S := Hd w.heap.size b (w.heap.size + 1) s) [(0, false), (1, false), (2, false), (3, false), (4, false), (5, false), (6, false), (7, false), (8, true), (9, true), (10, false), (11, false), (12, true)] [] (by kernel_rfl) (by kernel_rfl) ?_
  iterate 8
    refine seq_read (v := ?_) rfl (fun _ _ _ h => h) (by rfl) hS6 ?_ ?_
    rotate_left 1
    · intro wx hwx
      have q0 := hwx.hand.c0; have c0 := hwx.old.c0; have c1 := hwx.old.c1; have c2 := hwx.old.c2; have c3 := hwx.old.c3; have c4 := hwx.old.c4
      clear hwx
      go_simp <;> exact rfl
    go_frame
  refine seq_do rfl (fun K hK => ?_)
  go_simp
  refine (hMul_any b _ (divV s.P01 d) y _ (quot_R _ _) (unhide Ry) (SAt.drewN (unhide S6) 1)).mono ?_
  rintro e w7 ⟨rfl, h, k⟩
  have hS7 := hS6.kept k
  refine hK _ _ (fun _ => hS7) ?_
  clear hK K hS6
  have S7 := hide h; have K7 := hide (((unhide K6).trans (kept_drewN _ 1) (Or.inl rfl)).trans k (Or.inl rfl))
  clear h k S6 K6
  refine seq_do rfl (fun K hK => ?_)
  go_simp
  refine (hAdd_any b _ s.V (muV (divV s.P01 d) y) _ (unhide OK).V (muV_R _ _) (unhide S7)).mono ?_
  rintro e w8 ⟨rfl, h, k⟩
  have hS8 := hS7.kept k
  refine hK _ _ (fun _ => hS8) ?_
  clear hK K hS7
  have S8 := hide h; have K8 := hide ((unhide K7).trans k (Or.inl rfl))
  clear h k S7 K7
  iterate 2
    refine seq_read (v := ?_) rfl (fun _ _ _ h => h) (by rfl) hS8 ?_ ?_
    rotate_left 1
    · intro wx hwx
      have q0 := hwx.hand.c0; have c0 := hwx.old.c0; have c1 := hwx.old.c1; have c2 := hwx.old.c2; have c3 := hwx.old.c3; have c4 := hwx.old.c4
      clear hwx
      go_simp <;> exact rfl
    go_frame
  obtain ⟨w9, e4, h, k⟩ := (unhide S8).pV (adV s.V (muV (divV s.P01 d) y))
  have c := (unhide S8).c1; have f := (unhide S8).free 1
  refine seq_do rfl (fun K hK => ?_)
  go_simp
  rw [← e4]
  have D9 := hide (hS8.kept k)
  refine hK _ _ (fun _ => (unhide D9)) ?_
  have S9 := hide h; have K9 := hide ((unhide K8).trans k (Or.inl rfl))
  clear hK K e4 h k c f hS8 S8 K8
  refine seq_end ?_
  have q0 := (unhide D9).hand.c0
  go_wp2_with fail
  clear q0
  have hS9 : Hd w.heap.size b (w.heap.size + 1) s w9.drew := (unhide D9).drew
  clear D9
  refine region_by (S := Hd w.heap.size b (w.heap.size + 1) s) [(0, false), (1, false), (2, false), (3, false), (4, false), (5, false), (6, false), (7, false), (8, false), (9, true), (10, true), (11, false), (12, false), (13, true)] [] (by kernel_rfl) (by kernel_rfl) ?_
  iterate 9
    refine seq_read (v := ?_) rfl (fun _ _ _ h => h) (by rfl) hS9 ?_ ?_
    rotate_left 1
    · intro wx hwx
      have q0 := hwx.hand.c0; have c0 := hwx.old.c0; have c1 := hwx.old.c1; have c2 := hwx.old.c2; have c3 := hwx.old.c3; have c4 := hwx.old.c4
      clear hwx
      go_simp <;> exact rfl
    go_frame
  refine seq_do rfl (fun K hK => ?_)
  go_simp
  refine (hMul_any b _ (divV s.P00 d) s.P00 _ (quot_R _ _) (unhide OK).P00 (SAt.drewN (unhide S9) 1)).mono ?_
  rintro e w10 ⟨rfl, h, k⟩
  have hS10 := hS9.kept k
  refine hK _ _ (fun _ => hS10) ?_
  clear hK K hS9
  have S10 := hide h; have K10 := hide (((unhide K9).trans (kept_drewN _ 1) (Or.inl rfl)).trans k (Or.inl rfl))
  clear h k S9 K9
  refine seq_do rfl (fun K hK => ?_)
  go_simp
  refine (hSub_any b _ s.P00 (muV (divV s.P00 d) s.P00) _ (unhide OK).P00 (muV_R _ _) (unhide S10)).mono ?_
  rintro e w11 ⟨rfl, h, k⟩
  have hS11 := hS10.kept k
  refine hK _ _ (fun _ => hS11) ?_
  clear hK K hS10
  have S11 := hide h; have K11 := hide ((unhide K10).trans k (Or.inl rfl))
  clear h k S10 K10
  iterate 2
    refine seq_read (v := ?_) rfl (fun _ _ _ h => h) (by rfl) hS11 ?_ ?_
    rotate_left 1
    · intro wx hwx
      have q0 := hwx.hand.c0; have c0 := hwx.old.c0; have c1 := hwx.old.c1; have c2 := hwx.old.c2; have c3 := hwx.old.c3; have c4 := hwx.old.c4
      clear hwx
      go_simp <;> exact rfl
    go_frame
  obtain ⟨w12, e4, h, k⟩ := (unhide S11).pP00 (sbC s.P00 (muV (divV s.P00 d) s.P00))
  have c := (unhide S11).c2; have f := (unhide S11).free 2
  refine seq_do rfl (fun K hK => ?_)
  go_simp
  rw [← e4]
  have D12 := hide (hS11.kept k)
  refine hK _ _ (fun _ => (unhide D12)) ?_
  have S12 := hide h; have K12 := hide ((unhide K11).trans k (Or.inl rfl))
  clear hK K e4 h k c f hS11 S11 K11
  refine seq_end ?_
  have q0 := (unhide D12).hand.c0
  go_wp2_with fail
  clear q0
  have hS12 : Hd w.heap.size b (w.heap.size + 1) s w12.drew := (unhide D12).drew
  clear D12
  refine region_by (S := Hd w.heap.size b (w.heap.size + 1) s) [(0, false), (1, false), (2, false), (3, false), (4, false), (5, false), (6, false), (7, false), (8, false), (9, true), (10, true), (11, false), (12, false), (13, true)] [] (by kernel_rfl) (by kernel_rfl) ?_
  iterate 9
    refine seq_read (v := ?_) rfl (fun _ _ _ h => h) (by rfl) hS12 ?_ ?_
    rotate_left 1
    · intro wx hwx
      have q0 := hwx.hand.c0; have c0 := hwx.old.c0; have c1 := hwx.old.c1; have c2 := hwx.old.c2; have c3 := hwx.old.c3; have c4 := hwx.old.c4
      clear hwx
      go_simp <;> exact rfl
    go_frame
  refine seq_do rfl (fun K hK => ?_)
  go_simp
  refine (hMul_any b _ (divV s.P00 d) s.P01 _ (quot_R _ _) (unhide OK).P01 (SAt.drewN (unhide S12) 1)).mono ?_
  rintro e w13 ⟨rfl, h, k⟩
  have hS13 := hS12.kept k
  refine hK _ _ (fun _ => hS13) ?_
  clear hK K hS12
  have S13 := hide h; have K13 := hide (((unhide K12).trans (kept_drewN _ 1) (Or.inl rfl)).trans k (Or.inl rfl))
  clear h k S12 K12
  refine seq_do rfl (fun K hK => ?_)
  go_simp
  refine (hSub_any b _ s.P01 (muV (divV s.P00 d) s.P01) _ (unhide OK).P01 (muV_R _ _) (unhide S13)).mono ?_
  rintro e w14 ⟨rfl, h, k⟩
  have hS14 := hS13.kept k
  refine hK _ _ (fun _ => hS14) ?_
  clear hK K hS13
  have S14 := hide h; have K14 := hide ((unhide K13).trans k (Or.inl rfl))
  clear h k S13 K13
  iterate 2
    refine seq_read (v := ?_) rfl (fun _ _ _ h => h) (by rfl) hS14 ?_ ?_
    rotate_left 1
    · intro wx hwx
      have q0 := hwx.hand.c0; have c0 := hwx.old.c0; have c1 := hwx.old.c1; have c2 := hwx.old.c2; have c3 := hwx.old.c3; have c4 := hwx.old.c4
      clear hwx
      go_simp <;> exact rfl
    go_frame
  obtain ⟨w15, e4, h, k⟩ := (unhide S14).pP01 (sbC s.P01 (muV (divV s.P00 d) s.P01))
  have c := (unhide S14).c3; have f := (unhide S14).free 3
  refine seq_do rfl (fun K hK => ?_)
  go_simp
  rw [← e4]
  have D15 := hide (hS14.kept k)
  refine hK _ _ (fun _ => (unhide D15)) ?_
  have S15 := hide h; have K15 := hide ((unhide K14).trans k (Or.inl rfl))
  clear hK K e4 h k c f hS14 S14 K14
  refine seq_end ?_
  have q0 := (unhide D15).hand.c0
  go_wp2_with fail
  clear q0
  have hS15 : Hd w.heap.size b (w.heap.size + 1) s w15.drew := (unhide D15).drew
  clear D15
  refine region_by (S := Hd w.heap.size b (w.heap.size + 1) s) [(0, false), (1, false), (2, false), (3, false), (4, false), (5, false), (6, false), (7, false), (8, false), (9, true), (10, true), (11, false), (12, false), (13, true)] [] (by kernel_rfl) (by kernel_rfl) ?_
  iterate 9
    refine seq_read (v := ?_) rfl (fun _ _ _ h => h) (by rfl) hS15 ?_ ?_
    rotate_left 1
    · intro wx hwx
      have q0 := hwx.hand.c0; have c0 := hwx.old.c0; have c1 := hwx.old.c1; have c2 := hwx.old.c2; have c3 := hwx.old.c3; have c4 := hwx.old.c4
      clear hwx
      go_simp <;> exact rfl
    go_frame
  refine seq_do rfl (fun K hK => ?_)
  go_simp
  refine (hMul_any b _ (divV s.P01 d) s.P01 _ (quot_R _ _) (unhide OK).P01 (SAt.drewN (unhide S15) 1)).mono ?_
  rintro e w16 ⟨rfl, h, k⟩
  have hS16 := hS15.kept k
  refine hK _ _ (fun _ => hS16) ?_
  clear hK K hS15
  have S16 := hide h; have K16 := hide (((unhide K15).trans (kept_drewN _ 1) (Or.inl rfl)).trans k (Or.inl rfl))
  clear h k S15 K15
  refine seq_do rfl (fun K hK => ?_)
  go_simp
  refine (hSub_any b _ s.P11 (muV (divV s.P01 d) s.P01) _ (unhide OK).P11 (muV_R _ _) (unhide S16)).mono ?_
  rintro e w17 ⟨rfl, h, k⟩
  have hS17 := hS16.kept k
  refine hK _ _ (fun _ => hS17) ?_
  clear hK K hS16
  have S17 := hide h; have K17 := hide ((unhide K16).trans k (Or.inl rfl))
  clear h k S16 K16
  iterate 2
    refine seq_read (v := ?_) rfl (fun _ _ _ h => h) (by rfl) hS17 ?_ ?_
    rotate_left 1
    · intro wx hwx
      have q0 := hwx.hand.c0; have c0 := hwx.old.c0; have c1 := hwx.old.c1; have c2 := hwx.old.c2; have c3 := hwx.old.c3; have c4 := hwx.old.c4
      clear hwx
      go_simp <;> exact rfl
    go_frame
  obtain ⟨w18, e4, h, k⟩ := (unhide S17).pP11 (sbC s.P11 (muV (divV s.P01 d) s.P01))
  have c := (unhide S17).c4; have f := (unhide S17).free 4
  refine seq_do rfl (fun K hK => ?_)
  go_simp
  rw [← e4]
  have D18 := hide (hS17.kept k)
  refine hK _ _ (fun _ => (unhide D18)) ?_
  have S18 := hide h; have K18 := hide ((unhide K17).trans k (Or.inl rfl))
  clear hK K e4 h k c f hS17 S17 K17
  refine seq_end ?_
  have q0 := (unhide D18).hand.c0; have c := (unhide S18).c6; have f := (unhide S18).free 6
  obtain ⟨w19, e4, h, k⟩ := (unhide S18).pM 0
  have S19 := hide h; have K19 := hide ((unhide K18).trans k (Or.inl rfl)); have E4 := hide e4
  clear h k e4
  go_wp2_with fail
  rw [← unhide E4]
  go_end0
  exact ⟨rfl, unhide S19, unhide K19⟩

end Go.Proofs.YthimcecbgpamdaaGreat

namespace Go.Proofs.YthimcecbgpamdaaGreat
open Go.RowKit

theorem St.Ok.bend {s : St} (h : s.Ok) (x : Bool) : (s.bend x).Ok := ⟨h.X, h.V, h.P00, h.P01, h.P11, h.M⟩
theorem overB_low {s : St} {z r gate : Int} (h : offW s r ≤ 0) : overB s z r gate = true := by unfold overB; rw [decide_eq_true h, Bool.true_or]
theorem overB_high {s : St} {z r gate : Int} (h : muV gate (offW s r) < muV (offY s z) (offY s z)) : overB s z r gate = true := by unfold overB; rw [decide_eq_true h, Bool.or_true]
theorem overB_not {s : St} {z r gate : Int} (h : ¬ offW s r ≤ 0) (h2 : ¬ muV gate (offW s r) < muV (offY s z) (offY s z)) : overB s z r gate = false := by unfold overB; rw [decide_eq_false h, decide_eq_false h2]; rfl
/-- The state is put back, with one more reading passed over. -/
theorem SAt.back {w : World} {b : Nat} {s : St} (h : SAt w b s) (t : St) : ∃ w', w' = (((((((w.setCell ⟨b, 0, none⟩ (.int .i64 t.X)).setCell ⟨b, 1, none⟩ (.int .i64 t.V)).setCell ⟨b, 2, none⟩ (.int .i64 t.P00)).setCell ⟨b, 3, none⟩ (.int .i64 t.P01)).setCell ⟨b, 4, none⟩ (.int .i64 t.P11)).setCell ⟨b, 5, none⟩ (.bool t.B)).setCell ⟨b, 6, none⟩ (.int .i64 t.M)).setCell ⟨b, 6, none⟩ (.int .i64 (wrap64 (t.M + 1))) ∧ SAt w' b (t.setM (moreM t.M)) ∧ Kept b w w' := by
  obtain ⟨w1, e1, h1, k1⟩ := h.put t
  obtain ⟨w2, e2, h2, k2⟩ := h1.pM (moreM t.M)
  exact ⟨w2, by rw [e2, e1]; rfl, h2, k1.trans k2 (Or.inl rfl)⟩


end Go.Proofs.YthimcecbgpamdaaGreat

namespace Go.Proofs.YthimcecbgpamdaaGreat
open Go.RowKit

set_option maxHeartbeats 8000000 in
theorem hUpdate_low (b : Nat) (s : St) (z r gate : Int) (w : World) (hs : s.Ok) (hz : R64 z) (hr : R64 r) (hg : R64 gate) (h : SAt w b s) (hd : offW s r ≤ 0) :
    Calls Tryz.prog 124 #[hdV b, .int .i64 z, .int .i64 r, .int .i64 gate] w fun e w' => e = .returned (.bool (updT s z r gate)) ∧ SAt w' b (updS s z r gate) ∧ Kept b w w' := by
  obtain ⟨y, ey⟩ : ∃ y, y = offY s z := ⟨_, rfl⟩
  obtain ⟨d, ed⟩ : ∃ d, d = offW s r := ⟨_, rfl⟩
  rw [← ed] at hd
  have EY := hide ey; have ED := hide ed
  have RY := hide (show R64 y by rw [ey]; exact sbC_R _ _); have RD := hide (show R64 d by rw [ed]; exact adV_R _ _)
  clear ey ed
  obtain ⟨w1, e1, d1, s1, k1⟩ := old_start h
  have OK := hide hs; have E1 := hide e1; have D1 := hide d1; have S1 := hide s1; have K1 := hide k1
  have Rz := hide hz; have Rr := hide hr; have Rg := hide hg
  have a0 := h.c0; have a1 := h.c1; have a2 := h.c2; have a3 := h.c3; have a4 := h.c4; have a5 := h.c5; have a6 := h.c6; have lb := h.lt
  clear hs e1 d1 s1 k1 h hz hr hg
  go_enter Tryz.func124, Tryz.ntmps124
  go_wp2_with fail
  rw [← unhide E1]
  clear a0 a1 a2 a3 a4 a5 a6
  refine (hSub_any b _ z s.X _ (unhide Rz) (unhide OK).X (unhide S1)).mono ?_
  rintro e w2 ⟨rfl, h, k⟩
  have D2 := hide ((unhide D1).kept k)
  have S2 := hide h; have K2 := hide ((unhide K1).trans k (Or.inl rfl))
  clear h k S1 K1 D1
  have q0 := (unhide D2).hand.c0
  have c2 := (unhide D2).old.c2
  go_wp2_with fail
  clear q0 c2
  refine (hAdd_any b _ s.P00 r _ (unhide OK).P00 (unhide Rr) (unhide S2)).mono ?_
  rintro e w3 ⟨rfl, h, k⟩
  have D3 := hide ((unhide D2).kept k)
  have S3 := hide h; have K3 := hide ((unhide K2).trans k (Or.inl rfl))
  clear h k S2 K2 D2
  rw [show sbC z s.X = y from (unhide EY).symm, show adV s.P00 r = d from (unhide ED).symm]
  go_wp2_with fail
  have q0 := (unhide D3).hand.c0
  go_region
  have D := hide (unhide D3).drew; have S := hide (unhide S3).drew; have K := hide ((unhide K3).trans (kept_drew w3) (Or.inl rfl))
  clear D3 S3 K3 q0
  generalize w3.drew = u at *
  have q0 := (unhide D).hand.c0; have n1 := (unhide D).n1; have n2 := (unhide D).n2
  have c0 := (unhide D).old.c0; have c1 := (unhide D).old.c1; have c2 := (unhide D).old.c2; have c3 := (unhide D).old.c3; have c4 := (unhide D).old.c4; have c5 := (unhide D).old.c5; have c6 := (unhide D).old.c6
  have b0 := (unhide S).c0; have b1 := (unhide S).c1; have b2 := (unhide S).c2; have b3 := (unhide S).c3; have b4 := (unhide S).c4; have b5 := (unhide S).c5; have b6 := (unhide S).c6
  have f0 := (unhide S).free 0; have f1 := (unhide S).free 1; have f2 := (unhide S).free 2; have f3 := (unhide S).free 3; have f4 := (unhide S).free 4; have f5 := (unhide S).free 5; have f6 := (unhide S).free 6
  obtain ⟨w4, e4, h4, k4⟩ := (unhide S).back s
  have E4 := hide e4; have S4 := hide h4; have K4 := hide ((unhide K).trans k4 (Or.inl rfl))
  clear e4 h4 k4
  go_wp2_with fail
  rw [← unhide E4]
  go_ret
  have OV : overB s z r gate = true := by apply overB_low; rw [← unhide ED]; exact hd
  unfold updT updS; rw [OV]
  exact ⟨rfl, unhide S4, unhide K4⟩

end Go.Proofs.YthimcecbgpamdaaGreat

namespace Go.Proofs.YthimcecbgpamdaaGreat
open Go.RowKit

set_option maxHeartbeats 8000000 in
theorem hUpdate_high (b : Nat) (s : St) (z r gate : Int) (w : World) (hs : s.Ok) (hz : R64 z) (hr : R64 r) (hg : R64 gate) (h : SAt w b s) (hd : ¬ offW s r ≤ 0) (hp : muV gate (offW s r) < muV (offY s z) (offY s z)) :
    Calls Tryz.prog 124 #[hdV b, .int .i64 z, .int .i64 r, .int .i64 gate] w fun e w' => e = .returned (.bool (updT s z r gate)) ∧ SAt w' b (updS s z r gate) ∧ Kept b w w' := by
  obtain ⟨y, ey⟩ : ∃ y, y = offY s z := ⟨_, rfl⟩
  obtain ⟨d, ed⟩ : ∃ d, d = offW s r := ⟨_, rfl⟩
  rw [← ed] at hd hp
  rw [← ey] at hp
  have EY := hide ey; have ED := hide ed
  have RY := hide (show R64 y by rw [ey]; exact sbC_R _ _); have RD := hide (show R64 d by rw [ed]; exact adV_R _ _)
  clear ey ed
  obtain ⟨w1, e1, d1, s1, k1⟩ := old_start h
  have OK := hide hs; have E1 := hide e1; have D1 := hide d1; have S1 := hide s1; have K1 := hide k1
  have Rz := hide hz; have Rr := hide hr; have Rg := hide hg
  have a0 := h.c0; have a1 := h.c1; have a2 := h.c2; have a3 := h.c3; have a4 := h.c4; have a5 := h.c5; have a6 := h.c6; have lb := h.lt
  clear hs e1 d1 s1 k1 h hz hr hg
  go_enter Tryz.func124, Tryz.ntmps124
  go_wp2_with fail
  rw [← unhide E1]
  clear a0 a1 a2 a3 a4 a5 a6
  refine (hSub_any b _ z s.X _ (unhide Rz) (unhide OK).X (unhide S1)).mono ?_
  rintro e w2 ⟨rfl, h, k⟩
  have D2 := hide ((unhide D1).kept k)
  have S2 := hide h; have K2 := hide ((unhide K1).trans k (Or.inl rfl))
  clear h k S1 K1 D1
  have q0 := (unhide D2).hand.c0
  have c2 := (unhide D2).old.c2
  go_wp2_with fail
  clear q0 c2
  refine (hAdd_any b _ s.P00 r _ (unhide OK).P00 (unhide Rr) (unhide S2)).mono ?_
  rintro e w3 ⟨rfl, h, k⟩
  have D3 := hide ((unhide D2).kept k)
  have S3 := hide h; have K3 := hide ((unhide K2).trans k (Or.inl rfl))
  clear h k S2 K2 D2
  rw [show sbC z s.X = y from (unhide EY).symm, show adV s.P00 r = d from (unhide ED).symm]
  go_wp2_with fail
  have hS3 : Hd w.heap.size b (w.heap.size + 1) s w3.drew := (unhide D3).drew
  clear D3
  refine region_by (S := Hd w.heap.size b (w.heap.size + 1) s) [(0, false), (1, false), (2, false), (3, false), (4, false), (5, false), (7, false), (8, false), (9, false), (6, true), (10, true), (11, true), (12, true)] [] (by kernel_rfl) (by kernel_rfl) ?_
  refine seq_read (v := .int .i64 d) rfl (fun _ _ _ h => h) (by rfl) hS3 ?_ ?_
  · intro wx hwx
    have q0 := hwx.hand.c0
    clear hwx
    go_simp
  show SeqL _ _ _ _ _ _ (Act.put _ (some 26) _) _
  go_frame
  refine seq_read (v := .bool false) rfl (fun _ _ _ h => h) (by rfl) hS3 ?_ ?_
  · intro wx hwx
    have q0 := hwx.hand.c0
    clear hwx
    go_simp
  show SeqL _ _ _ _ _ _ (Act.put _ (some 27) _) _
  go_frame
  refine seq_read (v := .bool false) rfl (fun _ _ _ h => h) (by rfl) hS3 ?_ ?_
  · intro wx hwx
    have q0 := hwx.hand.c0
    clear hwx
    go_simp
  show SeqL _ _ _ _ _ _ (Act.put _ (some 28) _) _
  go_frame
  refine seq_read (v := hdV b) rfl (fun _ _ _ h => h) (by go_simp) hS3 ?_ ?_
  · intro wx hwx
    have q0 := hwx.hand.c0
    clear hwx
    go_simp
  show SeqL _ _ _ _ _ _ (Act.put _ (some 29) _) _
  go_frame
  refine seq_read (v := .int .i64 y) rfl (fun _ _ _ h => h) (by go_simp) hS3 ?_ ?_
  · intro wx hwx
    have q0 := hwx.hand.c0
    clear hwx
    go_simp
  show SeqL _ _ _ _ _ _ (Act.put _ (some 30) _) _
  go_frame
  refine seq_read (v := .int .i64 y) rfl (fun _ _ _ h => h) (by go_simp) hS3 ?_ ?_
  · intro wx hwx
    have q0 := hwx.hand.c0
    clear hwx
    go_simp
  show SeqL _ _ _ _ _ _ (Act.put _ (some 31) _) _
  go_frame
  refine seq_read (v := hdV b) rfl (fun _ _ _ h => h) (by go_simp) hS3 ?_ ?_
  · intro wx hwx
    have q0 := hwx.hand.c0
    clear hwx
    go_simp
  show SeqL _ _ _ _ _ _ (Act.put _ (some 33) _) _
  go_frame
  refine seq_read (v := .int .i64 gate) rfl (fun _ _ _ h => h) (by go_simp) hS3 ?_ ?_
  · intro wx hwx
    have q0 := hwx.hand.c0
    clear hwx
    go_simp
  show SeqL _ _ _ _ _ _ (Act.put _ (some 34) _) _
  go_frame
  refine seq_read (v := .int .i64 d) rfl (fun _ _ _ h => h) (by go_simp) hS3 ?_ ?_
  · intro wx hwx
    have q0 := hwx.hand.c0
    clear hwx
    go_simp
  show SeqL _ _ _ _ _ _ (Act.put _ (some 35) _) _
  go_frame
  refine seq_do rfl (fun K hK => ?_)
  go_simp
  refine (hMul_any b _ y y _ (unhide RY) (unhide RY) (SAt.drew (unhide S3))).mono ?_
  rintro e w4 ⟨rfl, h, k⟩
  have hS4 := hS3.kept k
  refine hK _ _ (fun _ => hS4) ?_
  clear hK K hS3
  have S4 := hide h; have K4 := hide (((unhide K3).trans (kept_drew w3) (Or.inl rfl)).trans k (Or.inl rfl))
  clear h k S3 K3
  refine seq_do rfl (fun K hK => ?_)
  go_simp
  refine (hMul_any b _ gate d _ (unhide Rg) (unhide RD) (unhide S4)).mono ?_
  rintro e w5 ⟨rfl, h, k⟩
  have hS5 := hS4.kept k
  refine hK _ _ (fun _ => hS5) ?_
  clear hK K hS4
  have S := hide h; have K5 := hide ((unhide K4).trans k (Or.inl rfl)); have D := hide hS5
  clear h k S4 K4
  refine seq_do rfl (fun K hK => ?_)
  go_simp
  refine hK _ _ (fun _ => hS5) ?_
  clear hK K
  refine seq_do rfl (fun K hK => ?_)
  go_simp
  refine hK _ _ (fun _ => hS5) ?_
  clear hK K hS5
  refine seq_end ?_
  have K := K5
  clear K5
  have q0 := (unhide D).hand.c0; have n1 := (unhide D).n1; have n2 := (unhide D).n2
  have c0 := (unhide D).old.c0; have c1 := (unhide D).old.c1; have c2 := (unhide D).old.c2; have c3 := (unhide D).old.c3; have c4 := (unhide D).old.c4; have c5 := (unhide D).old.c5; have c6 := (unhide D).old.c6
  have b0 := (unhide S).c0; have b1 := (unhide S).c1; have b2 := (unhide S).c2; have b3 := (unhide S).c3; have b4 := (unhide S).c4; have b5 := (unhide S).c5; have b6 := (unhide S).c6
  have f0 := (unhide S).free 0; have f1 := (unhide S).free 1; have f2 := (unhide S).free 2; have f3 := (unhide S).free 3; have f4 := (unhide S).free 4; have f5 := (unhide S).free 5; have f6 := (unhide S).free 6
  obtain ⟨w4, e4, h4, k4⟩ := (unhide S).back s
  have E4 := hide e4; have S4 := hide h4; have K4 := hide ((unhide K).trans k4 (Or.inl rfl))
  clear e4 h4 k4
  go_wp2_with fail
  rw [← unhide E4]
  go_ret
  have OV : overB s z r gate = true := by apply overB_high; rw [← unhide ED, ← unhide EY]; exact hp
  unfold updT updS; rw [OV]
  exact ⟨rfl, unhide S4, unhide K4⟩

end Go.Proofs.YthimcecbgpamdaaGreat

namespace Go.Proofs.YthimcecbgpamdaaGreat
open Go.RowKit

set_option maxHeartbeats 8000000 in
theorem hUpdate_take (b : Nat) (s : St) (z r gate : Int) (w : World) (hs : s.Ok) (hz : R64 z) (hr : R64 r) (hg : R64 gate) (h : SAt w b s) (hd : ¬ offW s r ≤ 0) (hp : ¬ muV gate (offW s r) < muV (offY s z) (offY s z)) :
    Calls Tryz.prog 124 #[hdV b, .int .i64 z, .int .i64 r, .int .i64 gate] w fun e w' => e = .returned (.bool (updT s z r gate)) ∧ SAt w' b (updS s z r gate) ∧ Kept b w w' := by
  obtain ⟨y, ey⟩ : ∃ y, y = offY s z := ⟨_, rfl⟩
  obtain ⟨d, ed⟩ : ∃ d, d = offW s r := ⟨_, rfl⟩
  rw [← ed] at hd hp
  rw [← ey] at hp
  have EY := hide ey; have ED := hide ed
  have RY := hide (show R64 y by rw [ey]; exact sbC_R _ _); have RD := hide (show R64 d by rw [ed]; exact adV_R _ _)
  clear ey ed
  obtain ⟨w1, e1, d1, s1, k1⟩ := old_start h
  have OK := hide hs; have E1 := hide e1; have D1 := hide d1; have S1 := hide s1; have K1 := hide k1
  have Rz := hide hz; have Rr := hide hr; have Rg := hide hg
  have a0 := h.c0; have a1 := h.c1; have a2 := h.c2; have a3 := h.c3; have a4 := h.c4; have a5 := h.c5; have a6 := h.c6; have lb := h.lt
  clear hs e1 d1 s1 k1 h hz hr hg
  go_enter Tryz.func124, Tryz.ntmps124
  go_wp2_with fail
  rw [← unhide E1]
  clear a0 a1 a2 a3 a4 a5 a6
  refine (hSub_any b _ z s.X _ (unhide Rz) (unhide OK).X (unhide S1)).mono ?_
  rintro e w2 ⟨rfl, h, k⟩
  have D2 := hide ((unhide D1).kept k)
  have S2 := hide h; have K2 := hide ((unhide K1).trans k (Or.inl rfl))
  clear h k S1 K1 D1
  have q0 := (unhide D2).hand.c0
  have c2 := (unhide D2).old.c2
  go_wp2_with fail
  clear q0 c2
  refine (hAdd_any b _ s.P00 r _ (unhide OK).P00 (unhide Rr) (unhide S2)).mono ?_
  rintro e w3 ⟨rfl, h, k⟩
  have D3 := hide ((unhide D2).kept k)
  have S3 := hide h; have K3 := hide ((unhide K2).trans k (Or.inl rfl))
  clear h k S2 K2 D2
  rw [show sbC z s.X = y from (unhide EY).symm, show adV s.P00 r = d from (unhide ED).symm]
  go_wp2_with fail
  have hS3 : Hd w.heap.size b (w.heap.size + 1) s w3.drew := (unhide D3).drew
  clear D3
  refine region_by (S := Hd w.heap.size b (w.heap.size + 1) s) [(0, false), (1, false), (2, false), (3, false), (4, false), (5, false), (7, false), (8, false), (9, false), (6, true), (10, true), (11, true), (12, true)] [] (by kernel_rfl) (by kernel_rfl) ?_
  refine seq_read (v := .int .i64 d) rfl (fun _ _ _ h => h) (by rfl) hS3 ?_ ?_
  · intro wx hwx
    have q0 := hwx.hand.c0
    clear hwx
    go_simp
  show SeqL _ _ _ _ _ _ (Act.put _ (some 26) _) _
  go_frame
  refine seq_read (v := .bool false) rfl (fun _ _ _ h => h) (by rfl) hS3 ?_ ?_
  · intro wx hwx
    have q0 := hwx.hand.c0
    clear hwx
    go_simp
  show SeqL _ _ _ _ _ _ (Act.put _ (some 27) _) _
  go_frame
  refine seq_read (v := .bool false) rfl (fun _ _ _ h => h) (by rfl) hS3 ?_ ?_
  · intro wx hwx
    have q0 := hwx.hand.c0
    clear hwx
    go_simp
  show SeqL _ _ _ _ _ _ (Act.put _ (some 28) _) _
  go_frame
  refine seq_read (v := hdV b) rfl (fun _ _ _ h => h) (by go_simp) hS3 ?_ ?_
  · intro wx hwx
    have q0 := hwx.hand.c0
    clear hwx
    go_simp
  show SeqL _ _ _ _ _ _ (Act.put _ (some 29) _) _
  go_frame
  refine seq_read (v := .int .i64 y) rfl (fun _ _ _ h => h) (by go_simp) hS3 ?_ ?_
  · intro wx hwx
    have q0 := hwx.hand.c0
    clear hwx
    go_simp
  show SeqL _ _ _ _ _ _ (Act.put _ (some 30) _) _
  go_frame
  refine seq_read (v := .int .i64 y) rfl (fun _ _ _ h => h) (by go_simp) hS3 ?_ ?_
  · intro wx hwx
    have q0 := hwx.hand.c0
    clear hwx
    go_simp
  show SeqL _ _ _ _ _ _ (Act.put _ (some 31) _) _
  go_frame
  refine seq_read (v := hdV b) rfl (fun _ _ _ h => h) (by go_simp) hS3 ?_ ?_
  · intro wx hwx
    have q0 := hwx.hand.c0
    clear hwx
    go_simp
  show SeqL _ _ _ _ _ _ (Act.put _ (some 33) _) _
  go_frame
  refine seq_read (v := .int .i64 gate) rfl (fun _ _ _ h => h) (by go_simp) hS3 ?_ ?_
  · intro wx hwx
    have q0 := hwx.hand.c0
    clear hwx
    go_simp
  show SeqL _ _ _ _ _ _ (Act.put _ (some 34) _) _
  go_frame
  refine seq_read (v := .int .i64 d) rfl (fun _ _ _ h => h) (by go_simp) hS3 ?_ ?_
  · intro wx hwx
    have q0 := hwx.hand.c0
    clear hwx
    go_simp
  show SeqL _ _ _ _ _ _ (Act.put _ (some 35) _) _
  go_frame
  refine seq_do rfl (fun K hK => ?_)
  go_simp
  refine (hMul_any b _ y y _ (unhide RY) (unhide RY) (SAt.drew (unhide S3))).mono ?_
  rintro e w4 ⟨rfl, h, k⟩
  have hS4 := hS3.kept k
  refine hK _ _ (fun _ => hS4) ?_
  clear hK K hS3
  have S4 := hide h; have K4 := hide (((unhide K3).trans (kept_drew w3) (Or.inl rfl)).trans k (Or.inl rfl))
  clear h k S3 K3
  refine seq_do rfl (fun K hK => ?_)
  go_simp
  refine (hMul_any b _ gate d _ (unhide Rg) (unhide RD) (unhide S4)).mono ?_
  rintro e w5 ⟨rfl, h, k⟩
  have hS5 := hS4.kept k
  refine hK _ _ (fun _ => hS5) ?_
  clear hK K hS4
  have S := hide h; have K5 := hide ((unhide K4).trans k (Or.inl rfl)); have D := hide hS5
  clear h k S4 K4
  refine seq_do rfl (fun K hK => ?_)
  go_simp
  refine hK _ _ (fun _ => hS5) ?_
  clear hK K
  refine seq_do rfl (fun K hK => ?_)
  go_simp
  refine hK _ _ (fun _ => hS5) ?_
  clear hK K hS5
  refine seq_end ?_
  have K := K5
  clear K5
  have q0 := (unhide D).hand.c0
  go_wp2_with fail
  clear q0
  refine (hTake_any b _ y d _ (((((unhide OK).bend _).bend _).bend _).bend _) (unhide RY) (unhide RD) (unhide S)).mono ?_
  rintro e w6 ⟨rfl, h, k⟩
  have S6 := hide h; have K6 := hide ((unhide K).trans k (Or.inl rfl))
  clear h k S K D
  go_wp2_with fail
  go_ret
  have OV : overB s z r gate = false := by apply overB_not <;> rw [← unhide ED] <;> first | (rw [← unhide EY]; omega) | omega
  unfold updT updS; rw [OV]
  refine ⟨rfl, ?_, unhide K6⟩
  have h6 := unhide S6
  rw [unhide EY, unhide ED] at h6
  exact h6

end Go.Proofs.YthimcecbgpamdaaGreat

namespace Go.Proofs.YthimcecbgpamdaaGreat
open Go.RowKit

theorem hUpdate_any (b : Nat) (s : St) (z r gate : Int) (w : World) (hs : s.Ok) (hz : R64 z) (hr : R64 r) (hg : R64 gate) (h : SAt w b s) :
    Calls Tryz.prog 124 #[hdV b, .int .i64 z, .int .i64 r, .int .i64 gate] w fun e w' => e = .returned (.bool (updT s z r gate)) ∧ SAt w' b (updS s z r gate) ∧ Kept b w w' := by
  by_cases hd : offW s r ≤ 0
  · exact hUpdate_low b s z r gate w hs hz hr hg h hd
  · by_cases hp : muV gate (offW s r) < muV (offY s z) (offY s z)
    · exact hUpdate_high b s z r gate w hs hz hr hg h hd hp
    · exact hUpdate_take b s z r gate w hs hz hr hg h hd hp

end Go.Proofs.YthimcecbgpamdaaGreat

namespace Go.Proofs.YthimcecbgpamdaaGreat
open Go.RowKit

/-- What Begin answers. -/
def begS (x : Int) : St := ⟨x, 0, 4294967296, 0, 4294967296, false, 0⟩
theorem R64_one : R64 4294967296 := by unfold R64; omega
theorem begS_ok {x : Int} (h : R64 x) : (begS x).Ok := ⟨h, R64_nought, R64_one, R64_nought, R64_one, R64_nought⟩

theorem one_state (w : World) (s : St) : ∃ w1, w1 = w.alloc (.cells #[.int .i64 s.X, .int .i64 s.V, .int .i64 s.P00, .int .i64 s.P01, .int .i64 s.P11, .bool s.B, .int .i64 s.M] 25) ∧ SAt w1 w.heap.size s ∧ Below w.heap.size w w1 ∧ w1.heap.size = w.heap.size + 1 :=
  ⟨_, rfl, SAt.new w s, al_below w _, al_size w _⟩
/-- A state's variable and that of an answer. -/
theorem two_state (w : World) (s : St) : ∃ w2, w2 = (w.alloc (.cells #[.int .i64 s.X, .int .i64 s.V, .int .i64 s.P00, .int .i64 s.P01, .int .i64 s.P11, .bool s.B, .int .i64 s.M] 25)).alloc (.cells #[.int .i64 0, .int .i64 0, .int .i64 0, .int .i64 0, .int .i64 0, .bool false, .int .i64 0] 25) ∧
    SAt w2 w.heap.size s ∧ SAt w2 (w.heap.size + 1) St.nil ∧ Below w.heap.size w w2 := by
  obtain ⟨w1, e1, h1, k1, z1⟩ := one_state w s
  obtain ⟨w2, e2, h2, k2, z2⟩ := one_state w1 St.nil
  rw [z1] at h2
  exact ⟨w2, by rw [e2, e1]; rfl, h1.below k2, h2, k1.trans (k2.mono k1.size)⟩

set_option maxHeartbeats 400000 in
theorem begin_any (x : Int) (w : World) :
    Calls Tryz.prog 93 #[.int .i64 x] w fun e w' => e = .returned (stV (begS x)) ∧ Below w.heap.size w w' := by
  go_enter Tryz.func93, Tryz.ntmps93
  go_wp2_with fail
  refine bodyPost_ret (v := stV (begS x)) (by simp [results, Tryz.results93, go_sem, begS]) rfl ⟨rfl, al_below w _⟩

set_option maxHeartbeats 400000 in
theorem predict_any (s : St) (dt q : Int) (w : World) (hs : s.Ok) (hdt : R64 dt) (hq : R64 q) :
    Calls Tryz.prog 97 #[stV s, .int .i64 dt, .int .i64 q] w fun e w' => e = .returned (stV (predS s dt q)) ∧ Below w.heap.size w w' := by
  obtain ⟨w2, e2, h2, g2, k2⟩ := two_state w s
  have OK := hide hs; have RD := hide hdt; have RQ := hide hq; have E2 := hide e2; have H2 := hide h2; have G2 := hide g2; have K2 := hide k2
  clear hs hdt hq e2 h2 g2 k2
  go_enter Tryz.func97, Tryz.ntmps97
  go_wp2_with fail
  rw [← unhide E2]
  refine (hPredict_any w.heap.size s dt q _ (unhide OK) (unhide RD) (unhide RQ) (unhide H2)).mono ?_
  rintro e w3 ⟨rfl, h3, k3⟩
  have g3 := (unhide G2).kept k3 (by omega)
  have K3 := hide (below_of_kept (unhide K2) k3 (Nat.le_refl _) (unhide K2).size)
  obtain ⟨t, et⟩ : ∃ t, t = predS s dt q := ⟨_, rfl⟩
  rw [← et] at h3
  have ET := hide et
  have c0 := h3.c0; have c1 := h3.c1; have c2 := h3.c2; have c3 := h3.c3; have c4 := h3.c4; have c5 := h3.c5; have c6 := h3.c6
  have b0 := g3.c0; have b1 := g3.c1; have b2 := g3.c2; have b3 := g3.c3; have b4 := g3.c4; have b5 := g3.c5; have b6 := g3.c6
  have f0 := g3.free 0; have f1 := g3.free 1; have f2 := g3.free 2; have f3 := g3.free 3; have f4 := g3.free 4; have f5 := g3.free 5; have f6 := g3.free 6
  obtain ⟨w4, e4, h4, k4⟩ := g3.put t
  have E4 := hide e4; have H4 := hide h4; have K4 := hide (below_of_kept (unhide K3) k4 (by omega) (unhide K3).size)
  clear h3 k3 g3 et e4 h4 k4
  go_wp2_with fail
  rw [← unhide E4]
  have p0 := (unhide H4).c0; have p1 := (unhide H4).c1; have p2 := (unhide H4).c2; have p3 := (unhide H4).c3; have p4 := (unhide H4).c4; have p5 := (unhide H4).c5; have p6 := (unhide H4).c6
  refine bodyPost_ret (v := stV t) (by simp [results, Tryz.results97, go_sem, p0, p1, p2, p3, p4, p5, p6]) rfl ⟨by rw [unhide ET], unhide K4⟩

set_option maxHeartbeats 400000 in
theorem update_any (s : St) (z r gate : Int) (w : World) (hs : s.Ok) (hz : R64 z) (hr : R64 r) (hg : R64 gate) :
    Calls Tryz.prog 96 #[stV s, .int .i64 z, .int .i64 r, .int .i64 gate] w fun e w' => e = .returned (.tuple #[stV (updS s z r gate), .bool (updT s z r gate)]) ∧ Below w.heap.size w w' := by
  obtain ⟨w2, e2, h2, g2, k2⟩ := two_state w s
  have OK := hide hs; have RZ := hide hz; have RR := hide hr; have RG := hide hg; have E2 := hide e2; have H2 := hide h2; have G2 := hide g2; have K2 := hide k2
  clear hs hz hr hg e2 h2 g2 k2
  go_enter Tryz.func96, Tryz.ntmps96
  go_wp2_with fail
  rw [← unhide E2]
  refine (hUpdate_any w.heap.size s z r gate _ (unhide OK) (unhide RZ) (unhide RR) (unhide RG) (unhide H2)).mono ?_
  rintro e w3 ⟨rfl, h3, k3⟩
  have g3 := (unhide G2).kept k3 (by omega)
  have K3 := hide (below_of_kept (unhide K2) k3 (Nat.le_refl _) (unhide K2).size)
  obtain ⟨t, et⟩ : ∃ t, t = updS s z r gate := ⟨_, rfl⟩
  obtain ⟨tk, ek⟩ : ∃ tk, tk = updT s z r gate := ⟨_, rfl⟩
  rw [← et] at h3
  rw [← ek]
  have ET := hide et; have EK := hide ek
  have c0 := h3.c0; have c1 := h3.c1; have c2 := h3.c2; have c3 := h3.c3; have c4 := h3.c4; have c5 := h3.c5; have c6 := h3.c6
  have b0 := g3.c0; have b1 := g3.c1; have b2 := g3.c2; have b3 := g3.c3; have b4 := g3.c4; have b5 := g3.c5; have b6 := g3.c6
  have f0 := g3.free 0; have f1 := g3.free 1; have f2 := g3.free 2; have f3 := g3.free 3; have f4 := g3.free 4; have f5 := g3.free 5; have f6 := g3.free 6
  obtain ⟨w4, e4, h4, k4⟩ := g3.put t
  have E4 := hide e4; have H4 := hide h4; have K4 := hide (below_of_kept (unhide K3) k4 (by omega) (unhide K3).size)
  clear h3 k3 g3 et ek e4 h4 k4
  go_wp2_with fail
  rw [← unhide E4]
  have p0 := (unhide H4).c0; have p1 := (unhide H4).c1; have p2 := (unhide H4).c2; have p3 := (unhide H4).c3; have p4 := (unhide H4).c4; have p5 := (unhide H4).c5; have p6 := (unhide H4).c6
  refine bodyPost_ret (v := .tuple #[stV t, .bool tk]) (by simp [results, Tryz.results96, go_sem, p0, p1, p2, p3, p4, p5, p6]) rfl ⟨by rw [unhide ET, unhide EK], unhide K4⟩

/-- A tuning's variable. -/
def TAt (w : World) (b : Nat) (t : Tn) : Prop := w.heap[b]? = some (.cells #[.int .i64 t.Dt, .int .i64 t.Q, .int .i64 t.R, .int .i64 t.G] 23 (0, 0))
theorem TAt.c0 {w : World} {b : Nat} {t : Tn} (h : TAt w b t) : w.cell? ⟨b, 0, none⟩ = some (.int .i64 t.Dt) := by
  unfold TAt at h; unfold World.cell?; rw [h]; rfl
theorem TAt.c1 {w : World} {b : Nat} {t : Tn} (h : TAt w b t) : w.cell? ⟨b, 1, none⟩ = some (.int .i64 t.Q) := by
  unfold TAt at h; unfold World.cell?; rw [h]; rfl
theorem TAt.c2 {w : World} {b : Nat} {t : Tn} (h : TAt w b t) : w.cell? ⟨b, 2, none⟩ = some (.int .i64 t.R) := by
  unfold TAt at h; unfold World.cell?; rw [h]; rfl
theorem TAt.c3 {w : World} {b : Nat} {t : Tn} (h : TAt w b t) : w.cell? ⟨b, 3, none⟩ = some (.int .i64 t.G) := by
  unfold TAt at h; unfold World.cell?; rw [h]; rfl
theorem TAt.lt {w : World} {b : Nat} {t : Tn} (h : TAt w b t) : b < w.heap.size := lt_of_block h
theorem TAt.same {w w' : World} {b : Nat} {t : Tn} (h : TAt w b t) (e : w'.heap[b]? = w.heap[b]?) : TAt w' b t := e.trans h
theorem TAt.below {w w' : World} {b : Nat} {t : Tn} (h : TAt w b t) (k : Below w.heap.size w w') : TAt w' b t := h.same (k.block b h.lt)
theorem TAt.kept {z : Nat} {w w' : World} {b : Nat} {t : Tn} (h : TAt w b t) (k : Kept z w w') (hz : b ≠ z) : TAt w' b t := h.same (k.block b h.lt hz)
theorem TAt.new (w : World) (t : Tn) : TAt (w.alloc (.cells #[.int .i64 t.Dt, .int .i64 t.Q, .int .i64 t.R, .int .i64 t.G] 23)) w.heap.size t := by
  unfold TAt
  show (w.heap.push _)[w.heap.size]? = _
  rw [Array.getElem?_push_size]
/-- A state's and a tuning's variable. -/
structure ST (bs bt : Nat) (s : St) (t : Tn) (w : World) : Prop where
  st : SAt w bs s
  tn : TAt w bt t
theorem ST.below {bs bt : Nat} {s : St} {t : Tn} {w w' : World} (h : ST bs bt s t w) (k : Below w.heap.size w w') : ST bs bt s t w' := ⟨h.st.below k, h.tn.below k⟩
theorem ST.kept {z bs bt : Nat} {s : St} {t : Tn} {w w' : World} (h : ST bs bt s t w) (k : Kept z w w') (n1 : bs ≠ z) (n2 : bt ≠ z) : ST bs bt s t w' := ⟨h.st.kept k n1, h.tn.kept k n2⟩
theorem ST.drew {bs bt : Nat} {s : St} {t : Tn} {w : World} (h : ST bs bt s t w) : ST bs bt s t w.drew := ⟨h.st, h.tn⟩
theorem step_start (w : World) (s : St) (t : Tn) : ∃ w3, w3 = ((w.alloc (.cells #[.int .i64 s.X, .int .i64 s.V, .int .i64 s.P00, .int .i64 s.P01, .int .i64 s.P11, .bool s.B, .int .i64 s.M] 25)).alloc (.cells #[.int .i64 t.Dt, .int .i64 t.Q, .int .i64 t.R, .int .i64 t.G] 23)).alloc (.cells #[.int .i64 0, .int .i64 0, .int .i64 0, .int .i64 0, .int .i64 0, .bool false, .int .i64 0] 25) ∧
    ST w.heap.size (w.heap.size + 1) s t w3 ∧ SAt w3 (w.heap.size + 1 + 1) St.nil ∧ Below w.heap.size w w3 := by
  obtain ⟨w1, e1, h1, k1, z1⟩ := one_state w s
  have h2 := TAt.new w1 t
  have k2 := al_below w1 (.cells #[.int .i64 t.Dt, .int .i64 t.Q, .int .i64 t.R, .int .i64 t.G] 23)
  have z2 := al_size w1 (.cells #[.int .i64 t.Dt, .int .i64 t.Q, .int .i64 t.R, .int .i64 t.G] 23)
  rw [z1] at h2 z2
  rw [← e1]
  generalize w1.alloc (.cells #[.int .i64 t.Dt, .int .i64 t.Q, .int .i64 t.R, .int .i64 t.G] 23) = w2 at *
  obtain ⟨w3, e3, h3, k3, z3⟩ := one_state w2 St.nil
  rw [z2] at h3
  have kk := k1.trans (k2.mono k1.size)
  exact ⟨w3, e3, ⟨(h1.below k2).below k3, h2.below k3⟩, h3, kk.trans (k3.mono kk.size)⟩

set_option maxHeartbeats 1000000 in
theorem step_any (s : St) (t : Tn) (z : Int) (w : World) (hs : s.Ok) (ht : t.Ok) (hz : R64 z) :
    Calls Tryz.prog 65 #[stV s, tnV t, .int .i64 z] w fun e w' => e = .returned (.tuple #[stV (stepS s t z), .bool (stepT s t z)]) ∧ Below w.heap.size w w' := by
  obtain ⟨w1, e1, d1, g1, k1⟩ := step_start w s t
  have OK := hide hs; have OT := hide ht; have RZ := hide hz; have E1 := hide e1; have G1 := hide g1; have K1 := hide k1
  have hS1 : ST w.heap.size (w.heap.size + 1) s t w1.drew := d1.drew
  clear hs ht hz e1 d1 g1 k1
  go_enter Tryz.func65, Tryz.ntmps65
  go_wp2_with fail
  rw [← unhide E1]
  refine region_by (S := ST w.heap.size (w.heap.size + 1) s t) [(0, false), (1, false), (2, false), (3, false), (4, false), (6, false), (7, false), (8, false), (9, false), (10, false), (5, true), (11, true), (12, false), (13, false), (14, true), (15, true)] [] (by kernel_rfl) (by kernel_rfl) ?_
  iterate 10
    refine seq_read (v := ?_) rfl (fun _ _ _ h => h) (by rfl) hS1 ?_ ?_
    rotate_left 1
    · intro wx hwx
      have q0 := hwx.tn.c0; have q1 := hwx.tn.c1; have q2 := hwx.tn.c2; have q3 := hwx.tn.c3
      have c0 := hwx.st.c0; have c1 := hwx.st.c1; have c2 := hwx.st.c2; have c3 := hwx.st.c3; have c4 := hwx.st.c4; have c5 := hwx.st.c5; have c6 := hwx.st.c6
      clear hwx
      go_simp <;> exact rfl
    go_frame
  refine seq_do rfl (fun K hK => ?_)
  go_simp
  refine (predict_any s t.Dt t.Q _ (unhide OK) (unhide OT).Dt (unhide OT).Q).mono ?_
  rintro e w2 ⟨rfl, k⟩
  have hS2 := hS1.below k
  refine hK _ _ (fun _ => hS2) ?_
  have G2 := hide (SAt.below (w := w1.drew) (unhide G1) k); have K2 := hide ((below_drew (unhide K1)).trans (k.mono (unhide K1).size))
  clear hK K hS1 k G1 K1
  refine seq_do rfl (fun K hK => ?_)
  go_simp
  refine (update_any (predS s t.Dt t.Q) z t.R t.G _ (predS_ok (unhide OK) _ _) (unhide RZ) (unhide OT).R (unhide OT).G).mono ?_
  rintro e w3 ⟨rfl, k⟩
  have hS3 := hS2.below k
  refine hK _ _ (fun _ => hS3) ?_
  have G3 := hide ((unhide G2).below k); have K3 := hide ((unhide K2).trans (k.mono (unhide K2).size))
  clear hK K hS2 k G2 K2
  rw [show updS (predS s t.Dt t.Q) z t.R t.G = stepS s t z from rfl, show updT (predS s t.Dt t.Q) z t.R t.G = stepT s t z from rfl]
  obtain ⟨p, ep⟩ : ∃ p, p = stepS s t z := ⟨_, rfl⟩
  obtain ⟨tk, ek⟩ : ∃ tk, tk = stepT s t z := ⟨_, rfl⟩
  rw [← ep, ← ek]
  have EP := hide ep; have EK := hide ek
  clear ep ek
  iterate 2
    refine seq_read (v := ?_) rfl (fun _ _ _ h => h) (by rfl) hS3 ?_ ?_
    rotate_left 1
    · intro wx hwx
      clear hwx
      go_simp <;> exact rfl
    go_frame
  have b0 := (unhide G3).c0; have b1 := (unhide G3).c1; have b2 := (unhide G3).c2; have b3 := (unhide G3).c3; have b4 := (unhide G3).c4; have b5 := (unhide G3).c5; have b6 := (unhide G3).c6
  have f0 := (unhide G3).free 0; have f1 := (unhide G3).free 1; have f2 := (unhide G3).free 2; have f3 := (unhide G3).free 3; have f4 := (unhide G3).free 4; have f5 := (unhide G3).free 5; have f6 := (unhide G3).free 6
  obtain ⟨w4, e4, h4, k4⟩ := (unhide G3).put p
  refine seq_do rfl (fun K hK => ?_)
  go_simp
  rw [← e4]
  have hS4 := hS3.kept k4 (by omega) (by omega)
  refine hK _ _ (fun _ => hS4) ?_
  have G4 := hide h4; have K4 := hide (below_of_kept (unhide K3) k4 (by omega) (unhide K3).size)
  clear hK K b0 b1 b2 b3 b4 b5 b6 f0 f1 f2 f3 f4 f5 f6 e4 h4 k4 hS3 G3 K3
  refine seq_do rfl (fun K hK => ?_)
  go_simp
  refine hK _ _ (fun _ => hS4) ?_
  clear hK K hS4
  refine seq_end ?_
  go_wp2_with fail
  have p0 := (unhide G4).c0; have p1 := (unhide G4).c1; have p2 := (unhide G4).c2; have p3 := (unhide G4).c3; have p4 := (unhide G4).c4; have p5 := (unhide G4).c5; have p6 := (unhide G4).c6
  refine bodyPost_ret (v := .tuple #[stV p, .bool tk]) (by simp [results, Tryz.results65, go_sem, p0, p1, p2, p3, p4, p5, p6]) rfl ⟨by rw [unhide EP, unhide EK], unhide K4⟩

end Go.Proofs.YthimcecbgpamdaaGreat
