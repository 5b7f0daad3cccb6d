/- Rows of numbers in memory. -/
import Derived.Test.YtblglojbghmphaaMatSpec
import Derived.Test.YtblglojbghmphaaVecPlain
import Derived.Deep.OwnRows
import Derived.Laws.Cover3
import Derived.Laws.AppendOwnNone
namespace Go.Proofs.Ytblglojbghmphaa
open Go.RowKit

theorem infoInt : (Try.prog.info? 3).map (fun i => (i.zero, i.size, i.bytes)) = some (some (.int .i64 0), 1, 8) := by kernel_rfl

/-- The block b has cap cells of numbers, the first N hold g. -/
def Nh (w : World) (b N cap : Nat) (g : Nat → Int) : Prop :=
  ∃ cur : Array Value, w.heap[b]? = some (.cells cur 3 (0, 0)) ∧ cur.size = cap ∧ N ≤ cap ∧ cap ≤ maxLen ∧ ∀ i, i < N → cur[i]? = some (.int .i64 (g i))
theorem Nh.cell {w : World} {b N cap : Nat} {g : Nat → Int} (h : Nh w b N cap g) {i : Nat} (hi : i < N) : w.cell? ⟨b, i, none⟩ = some (.int .i64 (g i)) := by
  obtain ⟨c, hb, _, _, _, hc⟩ := h
  simp [World.cell?, hb, hc i hi]
theorem Nh.free {w : World} {b N cap : Nat} {g : Nat → Int} (h : Nh w b N cap g) (i : Nat) : w.frozen? ⟨b, i, none⟩ = false := by
  obtain ⟨c, hb, _⟩ := h
  simp [World.frozen?, hb]
theorem Nh.lt {w : World} {b N cap : Nat} {g : Nat → Int} (h : Nh w b N cap g) : b < w.heap.size := by
  obtain ⟨c, hb, _⟩ := h
  exact lt_of_block hb
theorem Nh.fit {w : World} {b N cap : Nat} {g : Nat → Int} (h : Nh w b N cap g) : N ≤ cap := by obtain ⟨c, _, _, h, _⟩ := h; exact h
theorem Nh.big {w : World} {b N cap : Nat} {g : Nat → Int} (h : Nh w b N cap g) : cap ≤ 9223372036854775807 := by obtain ⟨c, _, _, _, h, _⟩ := h; exact h
theorem Nh.same {w w' : World} {b N cap : Nat} {g : Nat → Int} (h : Nh w b N cap g) (e : w'.heap[b]? = w.heap[b]?) : Nh w' b N cap g := by
  obtain ⟨c, hb, hr⟩ := h
  exact ⟨c, e.trans hb, hr⟩
theorem Nh.congr {w : World} {b N cap : Nat} {g f : Nat → Int} (h : Nh w b N cap g) (e : ∀ i, i < N → g i = f i) : Nh w b N cap f := by
  obtain ⟨c, hb, h1, h2, h3, h4⟩ := h
  exact ⟨c, hb, h1, h2, h3, fun i hi => by rw [h4 i hi, e i hi]⟩
theorem Nh.less {w : World} {b N M cap : Nat} {g : Nat → Int} (h : Nh w b N cap g) (e : M ≤ N) : Nh w b M cap g := by
  obtain ⟨c, hb, h1, h2, h3, h4⟩ := h
  exact ⟨c, hb, h1, by omega, h3, fun i hi => h4 i (by omega)⟩
theorem Nh.kept {z : Nat} {w w' : World} {b N cap : Nat} {g : Nat → Int} (h : Nh w b N cap g) (k : Kept z w w') (hz : b ≠ z) : Nh w' b N cap g := h.same (k.block b h.lt hz)
theorem Nh.below {w w' : World} {b N cap : Nat} {g : Nat → Int} (h : Nh w b N cap g) (k : Below w.heap.size w w') : Nh w' b N cap g := h.same (k.block b h.lt)
theorem Nh.set {w : World} {b N cap : Nat} {g : Nat → Int} (h : Nh w b N cap g) (i : Nat) (x : Int) : Nh (w.setCell ⟨b, i, none⟩ (.int .i64 x)) b N cap (stF g i x) := by
  obtain ⟨c, hb, hn, h2, h3, hc⟩ := h
  refine ⟨c.setIfInBounds i (.int .i64 x), ?_, by simpa using hn, h2, h3, fun j hj => ?_⟩
  · simp [World.setCell, Array.getElem?_modify, hb]
  · rw [Array.getElem?_setIfInBounds]
    by_cases e : j = i
    · subst e
      rw [stF_same]
      simp [hn]; omega
    · rw [if_neg (fun h => e h.symm), stF_other g x e]
      exact hc j hj
theorem Nh.made (w : World) (n : Nat) (hn : n ≤ maxLen) : Nh (w.alloc (.cells (madeCells #[.int .i64 0] n) 3)) w.heap.size n n (fun _ => 0) := by
  obtain ⟨c, h1, h2, h3⟩ := World.rowIs_made w (.int .i64 0) n 3
  exact ⟨c, h1, h2, Nat.le_refl _, hn, h3⟩
/-- What an append owns. -/
theorem Nh.of_owns {w : World} {base n : Nat} {v : Value} {f : Nat → Int} {xs : List Value} (hn : 1 ≤ n) (h : w.ownsRow base 3 1 v n xs) (hx : ∀ i, i < n → xs[i]? = some (.int .i64 (f i))) :
    ∃ r cap, v = .slice (some ⟨r, 0, none⟩) n cap ∧ base ≤ r ∧ Nh w r n cap f := by
  obtain ⟨hl, h1⟩ := h
  rcases h1 with ⟨rfl, rfl⟩ | ⟨g, cap, cur, rfl, hg, hh, hc, hm, hsz, hcur⟩
  · omega
  · refine ⟨g, cap, rfl, hg, cur, hh, by simpa using hsz, hc, hm, fun i hi => ?_⟩
    rw [← hx i hi, ← hcur, List.getElem?_take, if_pos (by omega), Array.getElem?_toList]
theorem Nh.owns {w : World} {base r n cap : Nat} {f : Nat → Int} (h : Nh w r n cap f) (hb : base ≤ r) : w.ownsRow base 3 1 (.slice (some ⟨r, 0, none⟩) n cap) n ((List.range n).map (fun i => Value.int .i64 (f i))) := by
  obtain ⟨c, h1, h2, h3, h4, h5⟩ := h
  refine ⟨by simp, Or.inr ⟨r, cap, c, rfl, hb, h1, h3, h4, by omega, ?_⟩⟩
  apply List.ext_getElem?
  intro i
  rw [List.getElem?_take, List.getElem?_map]
  by_cases hi : i < n
  · rw [if_pos (by omega), List.getElem?_range hi, Array.getElem?_toList, h5 i hi]; rfl
  · rw [if_neg (by omega), List.getElem?_eq_none (by simpa using hi)]; rfl

theorem al_size (w : World) (o : Obj) : (w.alloc o).heap.size = w.heap.size + 1 := by show (w.heap.push _).size = _; rw [Array.size_push]
theorem al_kept {z : Nat} (w : World) (o : Obj) : Kept z w (w.alloc o) := Kept.of_below ((Below.refl _ _).alloc (Nat.le_refl _) _)
theorem al_below (w : World) (o : Obj) : Below w.heap.size w (w.alloc o) := (Below.refl _ _).alloc (Nat.le_refl _) _
theorem at_kept {z : Nat} {w w' : World} {a : Addr} {v : Value} (h : w.cell? a = some v) (k : Kept z w w') (hz : a.block ≠ z) : w'.cell? a = some v :=
  (World.cell?_of_block (w := w) (a := a) (k.block a.block (World.block_lt_of_cell? w a h) hz)).trans h
theorem at_below {w w' : World} {a : Addr} {v : Value} (h : w.cell? a = some v) (k : Below w.heap.size w w') : w'.cell? a = some v :=
  (World.cell?_of_block (w := w) (a := a) (k.block a.block (World.block_lt_of_cell? w a h))).trans h

/-- The world w' has what w had, but for two blocks at most. -/
structure Kp2 (y z : Nat) (w w' : World) : Prop where
  os : w'.os = w.os
  tape : w'.tape = w.tape
  output : w'.output = w.output
  size : w.heap.size ≤ w'.heap.size
  block : ∀ k, k < w.heap.size → k ≠ y → k ≠ z → w'.heap[k]? = w.heap[k]?
theorem Kp2.refl (y z : Nat) (w : World) : Kp2 y z w w := ⟨rfl, rfl, rfl, Nat.le_refl _, fun _ _ _ _ => rfl⟩
theorem Kp2.trans {y z : Nat} {a b c : World} (h : Kp2 y z a b) (k : Kp2 y z b c) : Kp2 y z a c :=
  ⟨k.os.trans h.os, k.tape.trans h.tape, k.output.trans h.output, Nat.le_trans h.size k.size, fun i hi h1 h2 => (k.block i (Nat.lt_of_lt_of_le hi h.size) h1 h2).trans (h.block i hi h1 h2)⟩
theorem Kp2.of_kept {y z v : Nat} {w w' : World} (h : Kept v w w') (e : v = y ∨ v = z ∨ w.heap.size ≤ v) : Kp2 y z w w' :=
  ⟨h.os, h.tape, h.output, h.size, fun k hk h1 h2 => h.block k hk (by omega)⟩
theorem Kp2.of_below {y z : Nat} {w w' : World} (h : Below w.heap.size w w') : Kp2 y z w w' := ⟨h.os, h.tape, h.output, h.size, fun k hk _ _ => h.block k hk⟩
/-- A block that is new is not counted. -/
theorem Kp2.one {y z : Nat} {w0 w w' : World} (h : Kept y w0 w) (k : Kp2 y z w w') (hz : w0.heap.size ≤ z) : Kept y w0 w' :=
  ⟨k.os.trans h.os, k.tape.trans h.tape, k.output.trans h.output, Nat.le_trans h.size k.size, fun i hi h1 => (k.block i (Nat.lt_of_lt_of_le hi h.size) h1 (by omega)).trans (h.block i hi h1)⟩
theorem Kp2.below {y z B : Nat} {w0 w w' : World} (h : Below B w0 w) (k : Kp2 y z w w') (hy : B ≤ y) (hz : B ≤ z) (hB : B ≤ w.heap.size) : Below B w0 w' :=
  h.trans ⟨k.os, k.tape, k.output, k.size, fun i hi => k.block i (by omega) (by omega) (by omega)⟩
theorem Nh.kp2 {y z : Nat} {w w' : World} {b N cap : Nat} {g : Nat → Int} (h : Nh w b N cap g) (k : Kp2 y z w w') (hy : b ≠ y) (hz : b ≠ z) : Nh w' b N cap g := h.same (k.block b h.lt hy hz)
theorem at_kp2 {y z : Nat} {w w' : World} {a : Addr} {v : Value} (h : w.cell? a = some v) (k : Kp2 y z w w') (hy : a.block ≠ y) (hz : a.block ≠ z) : w'.cell? a = some v :=
  (World.cell?_of_block (w := w) (a := a) (k.block a.block (World.block_lt_of_cell? w a h) hy hz)).trans h

/-- The first l numbers of f as values. -/
def rowL (f : Nat → Int) (l : Nat) : List Value := (List.range l).map (fun i => Value.int .i64 (f i))
theorem rowL_len (f : Nat → Int) (l : Nat) : (rowL f l).length = l * 1 := by simp [rowL]
theorem rowL_at (f : Nat → Int) {l i : Nat} (hi : i < l) : (rowL f l)[i]? = some (.int .i64 (f i)) := by
  unfold rowL; rw [List.getElem?_map, List.getElem?_range hi]; rfl
theorem rowL_one (f : Nat → Int) (l : Nat) : ∀ u ∈ rowL f l, u.oneCell' = true := by
  intro u hu
  obtain ⟨i, _, rfl⟩ := List.mem_map.1 hu
  rfl
theorem rowL_cells {w : World} {b o l : Nat} {f : Nat → Int} (h : ∀ i, i < l → w.cell? ⟨b, o + i, none⟩ = some (.int .i64 (f i))) : ∀ (j : Nat) (u : Value), (rowL f l)[j]? = some u → w.cell? ((⟨b, o, none⟩ : Addr).add j) = some u := by
  intro j u hj
  rw [Addr.add_lit]
  rcases Nat.lt_or_ge j l with h2 | h2
  · rw [rowL_at f h2] at hj
    cases hj
    exact h j h2
  · unfold rowL at hj
    rw [List.getElem?_map, List.getElem?_eq_none (by simpa using h2)] at hj
    cases hj
theorem below_grown {w w' : World} {r : Option Nat} (h : w.grownBy w' r) (hr : ∀ k, r = some k → w.heap.size ≤ k) : Below w.heap.size w w' := ⟨h.os, h.tape, h.output, h.size, fun k hk => h.block k hk (fun e => by have := hr k e.symm; omega)⟩

/-- What a slice that may be empty reads. -/
def Rds (w : World) (ao : Option Addr) (len : Nat) (f : Nat → Int) : Prop := 0 < len → ∃ b o, ao = some ⟨b, o, none⟩ ∧ ∀ i, i < len → w.cell? ⟨b, o + i, none⟩ = some (.int .i64 (f i))
theorem Rds.below {w w' : World} {ao : Option Addr} {len : Nat} {f : Nat → Int} (h : Rds w ao len f) (k : Below w.heap.size w w') : Rds w' ao len f := by
  intro hl
  obtain ⟨b, o, e, hc⟩ := h hl
  exact ⟨b, o, e, fun i hi => at_below (hc i hi) k⟩
theorem Nh.rds {w : World} {b N cap : Nat} {g : Nat → Int} (h : Nh w b N cap g) : Rds w (some ⟨b, 0, none⟩) N g := fun _ => ⟨b, 0, rfl, fun i hi => by rw [Nat.zero_add]; exact h.cell hi⟩

theorem kept_drewN {z : Nat} (w : World) (k : Nat) : Kept z w (w.drewN k) := ⟨rfl, rfl, rfl, Nat.le_refl _, fun _ _ _ => rfl⟩

end Go.Proofs.Ytblglojbghmphaa
