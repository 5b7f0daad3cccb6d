/- Rows of numbers and a matrix at work, in memory. -/
import Derived.Test.YtnfejfdekedmhabMatSpec
import Derived.Test.YtnfejfdekedmhabVecPlain
import Derived.Deep.OwnRows
namespace Go.Proofs.Ytnfejfdekedmhab
open Go.RowKit

theorem infoInt : (Try.prog.info? 3).map (fun i => (i.zero, i.size, i.bytes)) = some (some (.int .i64 0), 1, 8) := by kernel_rfl

/-- The block b has cap cells of numbers, the first N hold g. -/
def Nh (w : World) (b N cap : Nat) (g : Nat → Int) : Prop :=
  ∃ cur : Array Value, w.heap[b]? = some (.cells cur 3 (0, 0)) ∧ cur.size = cap ∧ N ≤ cap ∧ cap ≤ maxLen ∧ ∀ i, i < N → cur[i]? = some (.int .i64 (g i))
theorem Nh.cell {w : World} {b N cap : Nat} {g : Nat → Int} (h : Nh w b N cap g) {i : Nat} (hi : i < N) : w.cell? ⟨b, i, none⟩ = some (.int .i64 (g i)) := by
  obtain ⟨c, hb, _, _, _, hc⟩ := h
  simp [World.cell?, hb, hc i hi]
theorem Nh.free {w : World} {b N cap : Nat} {g : Nat → Int} (h : Nh w b N cap g) (i : Nat) : w.frozen? ⟨b, i, none⟩ = false := by
  obtain ⟨c, hb, _⟩ := h
  simp [World.frozen?, hb]
theorem Nh.lt {w : World} {b N cap : Nat} {g : Nat → Int} (h : Nh w b N cap g) : b < w.heap.size := by
  obtain ⟨c, hb, _⟩ := h
  exact lt_of_block hb
theorem Nh.fit {w : World} {b N cap : Nat} {g : Nat → Int} (h : Nh w b N cap g) : N ≤ cap := by obtain ⟨c, _, _, h, _⟩ := h; exact h
theorem Nh.big {w : World} {b N cap : Nat} {g : Nat → Int} (h : Nh w b N cap g) : cap ≤ 9223372036854775807 := by obtain ⟨c, _, _, _, h, _⟩ := h; exact h
theorem Nh.same {w w' : World} {b N cap : Nat} {g : Nat → Int} (h : Nh w b N cap g) (e : w'.heap[b]? = w.heap[b]?) : Nh w' b N cap g := by
  obtain ⟨c, hb, hr⟩ := h
  exact ⟨c, e.trans hb, hr⟩
theorem Nh.congr {w : World} {b N cap : Nat} {g f : Nat → Int} (h : Nh w b N cap g) (e : ∀ i, i < N → g i = f i) : Nh w b N cap f := by
  obtain ⟨c, hb, h1, h2, h3, h4⟩ := h
  exact ⟨c, hb, h1, h2, h3, fun i hi => by rw [h4 i hi, e i hi]⟩
theorem Nh.less {w : World} {b N M cap : Nat} {g : Nat → Int} (h : Nh w b N cap g) (e : M ≤ N) : Nh w b M cap g := by
  obtain ⟨c, hb, h1, h2, h3, h4⟩ := h
  exact ⟨c, hb, h1, by omega, h3, fun i hi => h4 i (by omega)⟩
theorem Nh.kept {z : Nat} {w w' : World} {b N cap : Nat} {g : Nat → Int} (h : Nh w b N cap g) (k : Kept z w w') (hz : b ≠ z) : Nh w' b N cap g := h.same (k.block b h.lt hz)
theorem Nh.below {w w' : World} {b N cap : Nat} {g : Nat → Int} (h : Nh w b N cap g) (k : Below w.heap.size w w') : Nh w' b N cap g := h.same (k.block b h.lt)
theorem Nh.set {w : World} {b N cap : Nat} {g : Nat → Int} (h : Nh w b N cap g) (i : Nat) (x : Int) : Nh (w.setCell ⟨b, i, none⟩ (.int .i64 x)) b N cap (stF g i x) := by
  obtain ⟨c, hb, hn, h2, h3, hc⟩ := h
  refine ⟨c.setIfInBounds i (.int .i64 x), ?_, by simpa using hn, h2, h3, fun j hj => ?_⟩
  · simp [World.setCell, Array.getElem?_modify, hb]
  · rw [Array.getElem?_setIfInBounds]
    by_cases e : j = i
    · subst e
      rw [stF_same]
      simp [hn]; omega
    · rw [if_neg (fun h => e h.symm), stF_other g x e]
      exact hc j hj
theorem Nh.made (w : World) (n : Nat) (hn : n ≤ maxLen) : Nh (w.alloc (.cells (madeCells #[.int .i64 0] n) 3)) w.heap.size n n (fun _ => 0) := by
  obtain ⟨c, h1, h2, h3⟩ := World.rowIs_made w (.int .i64 0) n 3
  exact ⟨c, h1, h2, Nat.le_refl _, hn, h3⟩
/-- What an append owns. -/
theorem Nh.of_owns {w : World} {base n : Nat} {v : Value} {f : Nat → Int} {xs : List Value} (hn : 1 ≤ n) (h : w.ownsRow base 3 1 v n xs) (hx : ∀ i, i < n → xs[i]? = some (.int .i64 (f i))) :
    ∃ r cap, v = .slice (some ⟨r, 0, none⟩) n cap ∧ base ≤ r ∧ Nh w r n cap f := by
  obtain ⟨hl, h1⟩ := h
  rcases h1 with ⟨rfl, rfl⟩ | ⟨g, cap, cur, rfl, hg, hh, hc, hm, hsz, hcur⟩
  · omega
  · refine ⟨g, cap, rfl, hg, cur, hh, by simpa using hsz, hc, hm, fun i hi => ?_⟩
    rw [← hx i hi, ← hcur, List.getElem?_take, if_pos (by omega), Array.getElem?_toList]
theorem Nh.owns {w : World} {base r n cap : Nat} {f : Nat → Int} (h : Nh w r n cap f) (hb : base ≤ r) : w.ownsRow base 3 1 (.slice (some ⟨r, 0, none⟩) n cap) n ((List.range n).map (fun i => Value.int .i64 (f i))) := by
  obtain ⟨c, h1, h2, h3, h4, h5⟩ := h
  refine ⟨by simp, Or.inr ⟨r, cap, c, rfl, hb, h1, h3, h4, by omega, ?_⟩⟩
  apply List.ext_getElem?
  intro i
  rw [List.getElem?_take, List.getElem?_map]
  by_cases hi : i < n
  · rw [if_pos (by omega), List.getElem?_range hi, Array.getElem?_toList, h5 i hi]; rfl
  · rw [if_neg (by omega), List.getElem?_eq_none (by simpa using hi)]; rfl

theorem al_size (w : World) (o : Obj) : (w.alloc o).heap.size = w.heap.size + 1 := by show (w.heap.push _).size = _; rw [Array.size_push]
theorem al_kept {z : Nat} (w : World) (o : Obj) : Kept z w (w.alloc o) := Kept.of_below ((Below.refl _ _).alloc (Nat.le_refl _) _)
theorem al_below (w : World) (o : Obj) : Below w.heap.size w (w.alloc o) := (Below.refl _ _).alloc (Nat.le_refl _) _
theorem at_kept {z : Nat} {w w' : World} {a : Addr} {v : Value} (h : w.cell? a = some v) (k : Kept z w w') (hz : a.block ≠ z) : w'.cell? a = some v :=
  (World.cell?_of_block (w := w) (a := a) (k.block a.block (World.block_lt_of_cell? w a h) hz)).trans h
theorem at_below {w w' : World} {a : Addr} {v : Value} (h : w.cell? a = some v) (k : Below w.heap.size w w') : w'.cell? a = some v :=
  (World.cell?_of_block (w := w) (a := a) (k.block a.block (World.block_lt_of_cell? w a h))).trans h

/-- The world w' has what w had, but for two blocks at most. -/
structure Kp2 (y z : Nat) (w w' : World) : Prop where
  os : w'.os = w.os
  tape : w'.tape = w.tape
  output : w'.output = w.output
  size : w.heap.size ≤ w'.heap.size
  block : ∀ k, k < w.heap.size → k ≠ y → k ≠ z → w'.heap[k]? = w.heap[k]?
theorem Kp2.refl (y z : Nat) (w : World) : Kp2 y z w w := ⟨rfl, rfl, rfl, Nat.le_refl _, fun _ _ _ _ => rfl⟩
theorem Kp2.trans {y z : Nat} {a b c : World} (h : Kp2 y z a b) (k : Kp2 y z b c) : Kp2 y z a c :=
  ⟨k.os.trans h.os, k.tape.trans h.tape, k.output.trans h.output, Nat.le_trans h.size k.size, fun i hi h1 h2 => (k.block i (Nat.lt_of_lt_of_le hi h.size) h1 h2).trans (h.block i hi h1 h2)⟩
theorem Kp2.of_kept {y z v : Nat} {w w' : World} (h : Kept v w w') (e : v = y ∨ v = z ∨ w.heap.size ≤ v) : Kp2 y z w w' :=
  ⟨h.os, h.tape, h.output, h.size, fun k hk h1 h2 => h.block k hk (by omega)⟩
theorem Kp2.of_below {y z : Nat} {w w' : World} (h : Below w.heap.size w w') : Kp2 y z w w' := ⟨h.os, h.tape, h.output, h.size, fun k hk _ _ => h.block k hk⟩
/-- A block that is new is not counted. -/
theorem Kp2.one {y z : Nat} {w0 w w' : World} (h : Kept y w0 w) (k : Kp2 y z w w') (hz : w0.heap.size ≤ z) : Kept y w0 w' :=
  ⟨k.os.trans h.os, k.tape.trans h.tape, k.output.trans h.output, Nat.le_trans h.size k.size, fun i hi h1 => (k.block i (Nat.lt_of_lt_of_le hi h.size) h1 (by omega)).trans (h.block i hi h1)⟩
theorem Kp2.below {y z B : Nat} {w0 w w' : World} (h : Below B w0 w) (k : Kp2 y z w w') (hy : B ≤ y) (hz : B ≤ z) (hB : B ≤ w.heap.size) : Below B w0 w' :=
  h.trans ⟨k.os, k.tape, k.output, k.size, fun i hi => k.block i (by omega) (by omega) (by omega)⟩
theorem Nh.kp2 {y z : Nat} {w w' : World} {b N cap : Nat} {g : Nat → Int} (h : Nh w b N cap g) (k : Kp2 y z w w') (hy : b ≠ y) (hz : b ≠ z) : Nh w' b N cap g := h.same (k.block b h.lt hy hz)
theorem at_kp2 {y z : Nat} {w w' : World} {a : Addr} {v : Value} (h : w.cell? a = some v) (k : Kp2 y z w w') (hy : a.block ≠ y) (hz : a.block ≠ z) : w'.cell? a = some v :=
  (World.cell?_of_block (w := w) (a := a) (k.block a.block (World.block_lt_of_cell? w a h) hy hz)).trans h

/-- The block of a matrix at work: its order, its numbers, whether anything stopped. -/
def WkAt (w : World) (b : Nat) (n : Int) (v : Value) (x : Bool) : Prop := w.heap[b]? = some (.cells #[.int .i64 n, v, .bool x] 46 (0, 0))
theorem WkAt.cell0 {w : World} {b : Nat} {n : Int} {v : Value} {x : Bool} (h : WkAt w b n v x) : w.cell? ⟨b, 0, none⟩ = some (.int .i64 n) := by
  unfold WkAt at h; simp [World.cell?, h]
theorem WkAt.cell1 {w : World} {b : Nat} {n : Int} {v : Value} {x : Bool} (h : WkAt w b n v x) : w.cell? ⟨b, 1, none⟩ = some v := by
  unfold WkAt at h; simp [World.cell?, h]
theorem WkAt.cell2 {w : World} {b : Nat} {n : Int} {v : Value} {x : Bool} (h : WkAt w b n v x) : w.cell? ⟨b, 2, none⟩ = some (.bool x) := by
  unfold WkAt at h; simp [World.cell?, h]
theorem WkAt.free {w : World} {b : Nat} {n : Int} {v : Value} {x : Bool} (h : WkAt w b n v x) (i : Nat) : w.frozen? ⟨b, i, none⟩ = false := by
  unfold WkAt at h; simp [World.frozen?, h]
theorem WkAt.lt {w : World} {b : Nat} {n : Int} {v : Value} {x : Bool} (h : WkAt w b n v x) : b < w.heap.size := lt_of_block h
theorem WkAt.same {w w' : World} {b : Nat} {n : Int} {v : Value} {x : Bool} (h : WkAt w b n v x) (e : w'.heap[b]? = w.heap[b]?) : WkAt w' b n v x := e.trans h
theorem WkAt.set2 {w : World} {b : Nat} {n : Int} {v : Value} {x : Bool} (h : WkAt w b n v x) (y : Bool) : WkAt (w.setCell ⟨b, 2, none⟩ (.bool y)) b n v y := by
  unfold WkAt at h ⊢
  exact heap_setCell_same w b 2 _ _ (.bool y) h
theorem WkAt.new (w : World) (n : Int) (v : Value) (x : Bool) : WkAt (w.alloc (.cells #[.int .i64 n, v, .bool x] 46)) w.heap.size n v x := by
  unfold WkAt
  show (w.heap.push _)[w.heap.size]? = _
  rw [Array.getElem?_push_size]

/-- A good matrix at work: at block b, its numbers g at block r. -/
structure MW (w : World) (b n r cap : Nat) (g : Nat → Int) (x : Bool) : Prop where
  wk : WkAt w b n (.slice (some ⟨r, 0, none⟩) (n * n) cap) x
  row : Nh w r (n * n) cap g
  n1 : 1 ≤ n
  n6 : n ≤ 6
  ne : b ≠ r
  rng : ∀ i, R64 (g i)
theorem MW.same {w w' : World} {b n r cap : Nat} {g : Nat → Int} {x : Bool} (h : MW w b n r cap g x) (e1 : w'.heap[b]? = w.heap[b]?) (e2 : w'.heap[r]? = w.heap[r]?) : MW w' b n r cap g x :=
  ⟨h.wk.same e1, h.row.same e2, h.n1, h.n6, h.ne, h.rng⟩
theorem MW.below {w w' : World} {b n r cap : Nat} {g : Nat → Int} {x : Bool} (h : MW w b n r cap g x) (k : Below w.heap.size w w') : MW w' b n r cap g x :=
  h.same (k.block b h.wk.lt) (k.block r h.row.lt)
theorem MW.kept {z : Nat} {w w' : World} {b n r cap : Nat} {g : Nat → Int} {x : Bool} (h : MW w b n r cap g x) (k : Kept z w w') (hb : b ≠ z) (hr : r ≠ z) : MW w' b n r cap g x :=
  h.same (k.block b h.wk.lt hb) (k.block r h.row.lt hr)
theorem MW.kp2 {y z : Nat} {w w' : World} {b n r cap : Nat} {g : Nat → Int} {x : Bool} (h : MW w b n r cap g x) (k : Kp2 y z w w') (hb : b ≠ y) (hb2 : b ≠ z) (hr : r ≠ y) (hr2 : r ≠ z) : MW w' b n r cap g x :=
  h.same (k.block b h.wk.lt hb hb2) (k.block r h.row.lt hr hr2)
theorem MW.bend {w : World} {b n r cap : Nat} {g : Nat → Int} {x : Bool} (h : MW w b n r cap g x) (y : Bool) : MW (w.setCell ⟨b, 2, none⟩ (.bool y)) b n r cap g y :=
  ⟨h.wk.set2 y, h.row.kept (kept_set w b 2 _) h.ne.symm, h.n1, h.n6, h.ne, h.rng⟩
theorem MW.put {w : World} {b n r cap : Nat} {g : Nat → Int} {x : Bool} (h : MW w b n r cap g x) (p : Nat) {v : Int} (hv : R64 v) : MW (w.setCell ⟨r, p, none⟩ (.int .i64 v)) b n r cap (stF g p v) x :=
  ⟨h.wk.same ((kept_set w r p _).block b h.wk.lt h.ne), h.row.set p v, h.n1, h.n6, h.ne, stF_R h.rng hv⟩

end Go.Proofs.Ytnfejfdekedmhab
