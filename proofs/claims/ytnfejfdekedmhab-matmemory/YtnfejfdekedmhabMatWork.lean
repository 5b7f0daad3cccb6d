/- Contracts: slices.Clone of numbers, atWork. -/
import Derived.Test.YtnfejfdekedmhabMatOps
import Derived.Test.YtnfejfdekedmhabLate
import Derived.Laws.Cover3
namespace Go.Proofs.Ytnfejfdekedmhab
open Go.RowKit

/-- The first l numbers of f as values. -/
def rowL (f : Nat → Int) (l : Nat) : List Value := (List.range l).map (fun i => Value.int .i64 (f i))
theorem rowL_len (f : Nat → Int) (l : Nat) : (rowL f l).length = l * 1 := by simp [rowL]
theorem rowL_at (f : Nat → Int) {l i : Nat} (hi : i < l) : (rowL f l)[i]? = some (.int .i64 (f i)) := by
  unfold rowL; rw [List.getElem?_map, List.getElem?_range hi]; rfl
theorem rowL_one (f : Nat → Int) (l : Nat) : ∀ u ∈ rowL f l, u.oneCell' = true := by
  intro u hu
  obtain ⟨i, _, rfl⟩ := List.mem_map.1 hu
  rfl
theorem rowL_cells {w : World} {b o l : Nat} {f : Nat → Int} (h : ∀ i, i < l → w.cell? ⟨b, o + i, none⟩ = some (.int .i64 (f i))) : ∀ (j : Nat) (u : Value), (rowL f l)[j]? = some u → w.cell? ((⟨b, o, none⟩ : Addr).add j) = some u := by
  intro j u hj
  rw [Addr.add_lit]
  rcases Nat.lt_or_ge j l with h2 | h2
  · rw [rowL_at f h2] at hj
    cases hj
    exact h j h2
  · unfold rowL at hj
    rw [List.getElem?_map, List.getElem?_eq_none (by simpa using h2)] at hj
    cases hj
theorem below_grown {w w' : World} {r : Option Nat} (h : w.grownBy w' r) (hr : ∀ k, r = some k → w.heap.size ≤ k) : Below w.heap.size w w' := ⟨h.os, h.tape, h.output, h.size, fun k hk => h.block k hk (fun e => by have := hr k e.symm; omega)⟩

theorem eqlNil (a : Addr) (l c : Nat) (w : World) : (binOp .eql 22 (.slice (some a) l c) (.slice none 0 0)).run Try.prog w = .ok (.bool false) w := by
  simp only [binOp]
  simp [run_equal_slice_nil w 22 3 (some a) l c Try.underlying22]

set_option maxHeartbeats 400000 in
theorem clone_any (b o l c : Nat) (f : Nat → Int) (hl : 1 ≤ l) (hl2 : l ≤ 1000) (w : World) (hc : ∀ i, i < l → w.cell? ⟨b, o + i, none⟩ = some (.int .i64 (f i))) :
    Calls Try.prog 27 #[.slice (some ⟨b, o, none⟩) l c] w fun e w' =>
      ∃ r cap : Nat, e = .returned (.slice (some ⟨r, 0, none⟩) l cap) ∧ w.heap.size ≤ r ∧ Nh w' r l cap f ∧ Below w.heap.size w w' := by
  obtain ⟨i0, hi, hz0, hz1, hz2⟩ := info_parts infoInt
  have HL := hide hl
  have HC := hide (rowL_cells (w := w.alloc (.cells #[] 3)) (fun i hi => at_below (hc i hi) (al_below w _)))
  have H1 := hide (rowL_one f l); have HN := hide (rowL_len f l)
  have HX := hide (fun i (hi : i < l) => rowL_at f hi)
  clear hc
  generalize rowL f l = news at *
  have qn := eqlNil ⟨b, o, none⟩ l c
  go_enter Try.func27, Try.ntmps27
  go_wp2_with (at_builtin; refine wpList_append_own _ rfl _ _ 22 rfl w.heap.size 3 i0 (.int .i64 0) 1 8 Try.underlying22 hi hz0 hz1 hz2 rfl (by decide) (.slice (some ⟨w.heap.size, 0, none⟩) 0 0) 0 [] rfl (World.ownsRow_made _ _ _ (Nat.le_refl _) (by decide) rfl) ⟨b, o, none⟩ l c news rfl (unhide HN) (unhide HC) (unhide H1) (by unfold maxLen; omega) (by omega) (by rw [al_size]; omega) ?_)
  intro v' w1 hown hgr hnil
  obtain ⟨r, cap, rfl, hr, hrow⟩ := Nh.of_owns (unhide HL) hown (unhide HX)
  have F := hide (show Nh w1 r l cap f ∧ Below w.heap.size w w1 from ⟨hrow, (al_below w _).trans (by
    have hs := al_size w (.cells #[] 3)
    refine ⟨hgr.os, hgr.tape, hgr.output, by have := hgr.size; omega, fun k hk => hgr.block k (by omega) (by simp [Value.ownBlock]; omega)⟩)⟩)
  clear hown hgr hnil hrow
  go_wp2_with fail
  go_ret
  exact ⟨r, cap, rfl, hr, unhide F⟩

theorem makeFull (n : Nat) (hn : n ≤ 1000000000000) (w : World) : (Instr.makeSlice 22 (.int .i64 (n : Int)) (.int .i64 (n : Int))).run Try.prog w = .ok (.slice (some ⟨w.heap.size, 0, none⟩) n n) (w.alloc (.cells (madeCells #[.int .i64 0] n) 3)) :=
  run_make_row' (P := Try.prog) 22 3 (.int .i64 0) 8 Try.underlying22 infoInt rfl .i64 .i64 n (by omega) (by omega) w
theorem makeRoom (n : Nat) (hn : n ≤ 1000000000000) (w : World) : (Instr.makeSlice 22 (.int .i64 0) (.int .i64 (n : Int))).run Try.prog w = .ok (.slice (some ⟨w.heap.size, 0, none⟩) 0 n) (w.alloc (.cells (madeCells #[.int .i64 0] n) 3)) := by
  obtain ⟨i, hi, hz, hs, hb⟩ := info_parts infoInt
  have hr := run_make (P := Try.prog) w 22 3 i (.int .i64 0) Try.underlying22 hi hz .i64 .i64 0 n (by omega) (by omega) (by rw [hb]; omega) (by omega)
  simp only [Int.toNat_natCast, hs, Nat.mul_one] at hr
  exact hr
/-- One cell. -/
def Cl1 (b i : Nat) (v : Value) (w : World) : Prop := w.cell? ⟨b, i, none⟩ = some v
/-- Two cells of a block. -/
def Cl2 (b : Nat) (v0 v1 : Value) (w : World) : Prop := w.cell? ⟨b, 0, none⟩ = some v0 ∧ w.cell? ⟨b, 1, none⟩ = some v1
theorem Cl2.below {b : Nat} {v0 v1 : Value} {w w' : World} (h : Cl2 b v0 v1 w) (k : Below w.heap.size w w') : Cl2 b v0 v1 w' := ⟨at_below h.1 k, at_below h.2 k⟩
theorem Cl2.new (w : World) (v0 v1 : Value) (t : TypeId) : Cl2 w.heap.size v0 v1 (w.alloc (.cells #[v0, v1] t)) := by
  have h : (w.alloc (.cells #[v0, v1] t)).heap[w.heap.size]? = some (.cells #[v0, v1] t (0, 0)) := by show (w.heap.push _)[w.heap.size]? = _; rw [Array.getElem?_push_size]
  exact ⟨by unfold World.cell?; rw [h]; rfl, by unfold World.cell?; rw [h]; rfl⟩

set_option maxHeartbeats 1000000 in
theorem atWork_any (ba o n c : Nat) (f : Nat → Int) (hn : 1 ≤ n) (hn6 : n ≤ 6) (hf : ∀ i, R64 (f i)) (w : World) (hc : ∀ i, i < n * n → w.cell? ⟨ba, o + i, none⟩ = some (.int .i64 (f i))) :
    Calls Try.prog 22 #[.agg #[.int .i64 (n : Int), .slice (some ⟨ba, o, none⟩) (n * n) c]] w fun e w' =>
      ∃ b r cap : Nat, e = .returned (.pointer (some ⟨b, 0, none⟩)) ∧ w.heap.size ≤ b ∧ w.heap.size ≤ r ∧ MW w' b n r cap f false ∧ Below w.heap.size w w' := by
  obtain ⟨len, hlen⟩ : ∃ len, n * n = len := ⟨_, rfl⟩
  have h36 := sq_le hn6
  have h1 : 1 ≤ n * n := Nat.mul_le_mul hn hn
  have HC := hide hc; have HF := hide hf; have HN := hide hn; have HN6 := hide hn6
  have HL := hide hlen
  rw [hlen]
  rw [hlen] at HC h36 h1
  clear hc hf hlen hn hn6
  obtain ⟨w1, e1⟩ : ∃ w1, w1 = w.alloc (.cells #[.int .i64 (n : Int), .slice (some ⟨ba, o, none⟩) len c] 24) := ⟨_, rfl⟩
  have hS : Cl2 w.heap.size (.int .i64 (n : Int)) (.slice (some ⟨ba, o, none⟩) len c) w1.drew := by rw [e1]; exact Cl2.new w _ _ _
  have K1 := hide (show Below w.heap.size w w1 by rw [e1]; exact al_below w _)
  have S1 := hide (show w1.heap.size = w.heap.size + 1 by rw [e1]; exact al_size w _)
  have E1 := hide e1
  clear e1
  go_enter Try.func22, Try.ntmps22
  go_wp2_with fail
  rw [← unhide E1]
  refine region_by (S := Cl2 w.heap.size (.int .i64 (n : Int)) (.slice (some ⟨ba, o, none⟩) len c))
    [(0, false), (1, false), (2, false), (3, false), (4, true), (5, false), (6, false), (7, true), (8, true)] [] (by kernel_rfl) (by kernel_rfl) ?_
  iterate 4
    refine seq_read (v := ?_) rfl (fun _ _ _ h => h) (by rfl) hS ?_ ?_
    rotate_left 1
    · intro wx hwx
      obtain ⟨k1, k2⟩ := hwx
      go_simp <;> exact rfl
    go_frame
  refine seq_do rfl (fun K hK => ?_)
  go_simp
  refine (clone_any ba o len c f h1 (by omega) _ (fun i hi => at_below (w := w) (w' := w1.drew) (unhide HC i hi) (below_drew (unhide K1)))).mono ?_
  rintro e w2 ⟨r, cap, rfl, hr, hrow, hb⟩
  have hS2 := hS.below hb
  refine hK _ _ (fun _ => hS2) ?_
  have HR := hide hr; have HRW := hide hrow; have HB := hide hb
  clear hK K hS hr hrow hb
  iterate 2
    refine seq_read (v := ?_) rfl (fun _ _ _ h => h) (by rfl) hS2 ?_ ?_
    rotate_left 1
    · intro wx hwx
      clear hwx
      go_simp <;> exact rfl
    go_frame
  refine seq_do rfl (fun K hK => ?_)
  go_simp
  have hS3 := hS2.below (al_below w2 (.cells #[.int .i64 (n : Int), .slice (some ⟨r, 0, none⟩) len cap, .bool false] 46))
  refine hK _ _ (fun _ => hS3) ?_
  clear hK K hS2
  refine seq_do rfl (fun K hK => ?_)
  go_simp
  refine hK _ _ (fun _ => hS3) ?_
  clear hK K hS3
  refine seq_end ?_
  have F := hide (show MW (w2.alloc (.cells #[.int .i64 (n : Int), .slice (some ⟨r, 0, none⟩) len cap, .bool false] 46)) w2.heap.size n r cap f false ∧ Below w.heap.size w (w2.alloc (.cells #[.int .i64 (n : Int), .slice (some ⟨r, 0, none⟩) len cap, .bool false] 46)) ∧ w.heap.size ≤ w2.heap.size ∧ w.heap.size ≤ r from by
    have hs := unhide S1
    have hb := unhide HB
    have hr : w1.heap.size ≤ r := unhide HR
    have hsz : w1.heap.size ≤ w2.heap.size := hb.size
    have hl := (unhide HRW).lt
    refine ⟨⟨?_, ?_, unhide HN, unhide HN6, by omega, unhide HF⟩, ?_, by omega, by omega⟩
    · rw [unhide HL]; exact WkAt.new w2 _ _ _
    · rw [unhide HL]; exact (unhide HRW).below (al_below w2 _)
    · exact ((unhide K1).trans (⟨hb.os, hb.tape, hb.output, hb.size, fun k hk => hb.block k (by show k < w1.heap.size; omega)⟩ : Below w.heap.size w1 w2)).alloc (by omega) _)
  generalize w2.alloc (.cells #[.int .i64 (n : Int), .slice (some ⟨r, 0, none⟩) len cap, .bool false] 46) = w3 at *
  go_wp2_with fail
  go_ret
  exact ⟨_, r, cap, rfl, (unhide F).2.2.1, (unhide F).2.2.2, (unhide F).1, (unhide F).2.1⟩

end Go.Proofs.Ytnfejfdekedmhab
