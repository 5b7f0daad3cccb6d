/- Contract of package vec's each: part by part, whatever the operation. -/
import Derived.Test.YthkfdlfgehdppaaVecOps
import Derived.Test.YthkfdlfgehdppaaLate
namespace Go.Proofs.Ythkfdlfgehdppaa
open Go.RowKit

/-- The block of a vector's variable. -/
def VbAt (w : World) (b : Nat) (x y z : Int) : Prop := w.heap[b]? = some (.cells #[.int .i64 x, .int .i64 y, .int .i64 z] 23 (0, 0))
theorem VbAt.vc {w : World} {b : Nat} {x y z : Int} (h : VbAt w b x y z) : VcAt w b x y z := by
  unfold VbAt at h
  exact ⟨by simp [World.cell?, h], by simp [World.cell?, h], by simp [World.cell?, h]⟩
theorem VbAt.free {w : World} {b : Nat} {x y z : Int} (h : VbAt w b x y z) (i : Nat) : w.frozen? ⟨b, i, none⟩ = false := by
  unfold VbAt at h; simp [World.frozen?, h]
theorem VbAt.lt {w : World} {b : Nat} {x y z : Int} (h : VbAt w b x y z) : b < w.heap.size := lt_of_block h
theorem VbAt.kept {u : Nat} {w w' : World} {b : Nat} {x y z : Int} (h : VbAt w b x y z) (k : Kept u w w') (hz : b ≠ u) : VbAt w' b x y z := by
  unfold VbAt at h ⊢; rw [k.block b (lt_of_block h) hz]; exact h
theorem VbAt.below {w w' : World} {b : Nat} {x y z : Int} (h : VbAt w b x y z) (k : Below w.heap.size w w') : VbAt w' b x y z := by
  unfold VbAt at h ⊢; rw [k.block b (lt_of_block h)]; exact h
theorem VbAt.new (w : World) (x y z : Int) : VbAt (w.alloc (.cells #[.int .i64 x, .int .i64 y, .int .i64 z] 23)) w.heap.size x y z := by
  unfold VbAt
  show (w.heap.push _)[w.heap.size]? = _
  rw [Array.getElem?_push_size]
theorem kept_alloc {z : Nat} (w : World) (o : Obj) : Kept z w (w.alloc o) := Kept.of_below ((Below.refl _ _).alloc (Nat.le_refl _) _)
theorem size_alloc (w : World) (o : Obj) : (w.alloc o).heap.size = w.heap.size + 1 := by show (w.heap.push _).size = _; rw [Array.size_push]

theorem VbAt.set {w : World} {b : Nat} {x y z : Int} (h : VbAt w b x y z) (p q r : Int) :
    ∃ w', w' = ((w.setCell ⟨b, 0, none⟩ (.int .i64 p)).setCell ⟨b, 1, none⟩ (.int .i64 q)).setCell ⟨b, 2, none⟩ (.int .i64 r) ∧ VbAt w' b p q r ∧ Kept b w w' := by
  refine ⟨_, rfl, ?_, ((kept_set w b 0 _).trans (kept_set _ b 1 _) (Or.inl rfl)).trans (kept_set _ b 2 _) (Or.inl rfl)⟩
  unfold VbAt at h ⊢
  have h1 := heap_setCell_same w b 0 _ _ (.int .i64 p) h
  have h2 := heap_setCell_same _ b 1 _ _ (.int .i64 q) h1
  exact heap_setCell_same _ b 2 _ _ (.int .i64 r) h2
theorem VbAt.set0 {w : World} {b : Nat} {x y z : Int} (h : VbAt w b x y z) (p : Int) : VbAt (w.setCell ⟨b, 0, none⟩ (.int .i64 p)) b p y z := by
  unfold VbAt at h ⊢; exact heap_setCell_same w b 0 _ _ (.int .i64 p) h
theorem VbAt.set1 {w : World} {b : Nat} {x y z : Int} (h : VbAt w b x y z) (p : Int) : VbAt (w.setCell ⟨b, 1, none⟩ (.int .i64 p)) b x p z := by
  unfold VbAt at h ⊢; exact heap_setCell_same w b 1 _ _ (.int .i64 p) h
theorem VbAt.set2 {w : World} {b : Nat} {x y z : Int} (h : VbAt w b x y z) (p : Int) : VbAt (w.setCell ⟨b, 2, none⟩ (.int .i64 p)) b x y p := by
  unfold VbAt at h ⊢; exact heap_setCell_same w b 2 _ _ (.int .i64 p) h
/-- Two vectors' cells. -/
def Six (p q : Nat) (a0 a1 a2 c0 c1 c2 : Int) (w : World) : Prop :=
  w.cell? ⟨p, 0, none⟩ = some (.int .i64 a0) ∧ w.cell? ⟨p, 1, none⟩ = some (.int .i64 a1) ∧ w.cell? ⟨p, 2, none⟩ = some (.int .i64 a2) ∧
  w.cell? ⟨q, 0, none⟩ = some (.int .i64 c0) ∧ w.cell? ⟨q, 1, none⟩ = some (.int .i64 c1) ∧ w.cell? ⟨q, 2, none⟩ = some (.int .i64 c2)
theorem Six.of {p q : Nat} {a0 a1 a2 c0 c1 c2 : Int} {w : World} (h : VbAt w p a0 a1 a2) (k : VbAt w q c0 c1 c2) : Six p q a0 a1 a2 c0 c1 c2 w :=
  ⟨h.vc.1, h.vc.2.1, h.vc.2.2, k.vc.1, k.vc.2.1, k.vc.2.2⟩
theorem cell_kept {z : Nat} {w w' : World} {a : Addr} {v : Value} (h : w.cell? a = some v) (k : Kept z w w') (hz : a.block ≠ z) : w'.cell? a = some v :=
  (World.cell?_of_block (w := w) (a := a) (k.block a.block (World.block_lt_of_cell? w a h) hz)).trans h
theorem Six.kept {z p q : Nat} {a0 a1 a2 c0 c1 c2 : Int} {w w' : World} (h : Six p q a0 a1 a2 c0 c1 c2 w) (k : Kept z w w') (hp : p ≠ z) (hq : q ≠ z) : Six p q a0 a1 a2 c0 c1 c2 w' :=
  ⟨cell_kept h.1 k hp, cell_kept h.2.1 k hp, cell_kept h.2.2.1 k hp, cell_kept h.2.2.2.1 k hq, cell_kept h.2.2.2.2.1 k hq, cell_kept h.2.2.2.2.2 k hq⟩

/-- What the three variables of each hold, once made. -/
theorem each_start (w : World) (a0 a1 a2 c0 c1 c2 : Int) : ∃ w3, w3 = ((w.alloc (.cells #[.int .i64 a0, .int .i64 a1, .int .i64 a2] 23)).alloc (.cells #[.int .i64 c0, .int .i64 c1, .int .i64 c2] 23)).alloc (.cells #[.int .i64 0, .int .i64 0, .int .i64 0] 23) ∧
    Six w.heap.size (w.heap.size + 1) a0 a1 a2 c0 c1 c2 w3 ∧ VbAt w3 (w.heap.size + 1 + 1) 0 0 0 ∧ Below w.heap.size w w3 := by
  refine ⟨_, rfl, Six.of ?_ ?_, ?_, ?_⟩
  · exact ((VbAt.new w a0 a1 a2).kept (kept_alloc (z := w.heap.size + 5) _ _) (by omega)).kept (kept_alloc (z := w.heap.size + 5) _ _) (by omega)
  · have h := VbAt.new (w.alloc (.cells #[.int .i64 a0, .int .i64 a1, .int .i64 a2] 23)) c0 c1 c2
    rw [size_alloc] at h
    exact h.kept (kept_alloc (z := w.heap.size + 5) _ _) (by omega)
  · have h := VbAt.new ((w.alloc (.cells #[.int .i64 a0, .int .i64 a1, .int .i64 a2] 23)).alloc (.cells #[.int .i64 c0, .int .i64 c1, .int .i64 c2] 23)) 0 0 0
    rw [size_alloc, size_alloc] at h
    exact h
  · exact (((Below.refl _ _).alloc (Nat.le_refl _) _).alloc (by rw [size_alloc]; omega) _).alloc (by rw [size_alloc, size_alloc]; omega) _

set_option maxHeartbeats 1000000 in
theorem each_any (k : Nat) (g : Int → Int → Int) (hk : OpOK k g) (hin : Enters k) (b : Nat) (x : Bool) (a0 a1 a2 c0 c1 c2 : Int) (w : World) (ha0 : R64 a0) (ha1 : R64 a1) (ha2 : R64 a2) (hc0 : R64 c0) (hc1 : R64 c1) (hc2 : R64 c2) (h : RkAt w b x) :
    Calls Try.prog 28 #[.pointer (some ⟨b, 0, none⟩), .func (.func k) #[] #[], .agg #[.int .i64 a0, .int .i64 a1, .int .i64 a2], .agg #[.int .i64 c0, .int .i64 c1, .int .i64 c2]] w fun e w' =>
      e = .returned (.agg #[.int .i64 (clampZ (g a0 c0)), .int .i64 (clampZ (g a1 c1)), .int .i64 (clampZ (g a2 c2))]) ∧ RkAt w' b (x || bentZ (g a0 c0) || bentZ (g a1 c1) || bentZ (g a2 c2)) ∧ Kept b w w' := by
  have HK := hide hk
  have run : ∀ (args : Array Value) (w : World), (callFunc k args).run Try.prog w = .ok (.enter k args) w := hin
  clear hin
  have A0 := hide ha0; have A1 := hide ha1; have A2 := hide ha2; have C0 := hide hc0; have C1 := hide hc1; have C2 := hide hc2
  have H := hide h
  have HL := hide h.lt
  obtain ⟨w3, e3, s3, r3, k3⟩ := each_start w a0 a1 a2 c0 c1 c2
  have E3 := hide e3; have R3 := hide r3; have K3 := hide k3
  clear h ha0 ha1 ha2 hc0 hc1 hc2 hk e3 r3 k3
  go_enter Try.func28, Try.ntmps28
  go_wp2_with fail
  rw [← unhide E3]
  refine region_by (S := Six w.heap.size (w.heap.size + 1) a0 a1 a2 c0 c1 c2)
    [(0, false), (1, false), (2, false), (3, false), (4, false), (5, false), (7, false), (8, false), (9, false), (10, false), (11, false), (12, false), (14, false), (15, false), (16, false), (17, false), (18, false), (19, false), (6, true), (13, true), (20, true), (21, false), (22, true)] [22] (by kernel_rfl) (by kernel_rfl) ?_
  have hS : Six w.heap.size (w.heap.size + 1) a0 a1 a2 c0 c1 c2 w3.drew := s3
  have H3 := hide (show RkAt w3.drew b x from BlAt.below (w' := w3) (unhide H) (unhide K3))
  clear s3
  iterate 18
    refine seq_read (v := ?_) rfl (fun _ _ _ h => h) (by rfl) hS ?_ ?_
    rotate_left 1
    · intro wx hwx
      obtain ⟨k1, k2, k3, k4, k5, k6⟩ := hwx
      go_simp <;> exact rfl
    go_frame
  refine seq_do rfl (fun K hK => ?_)
  go_simp
  refine (unhide HK b x a0 c0 _ (unhide A0) (unhide C0) (unhide H3)).mono ?_
  rintro e w4 ⟨rfl, h4, k4⟩
  have H4 := hide h4; have K4 := hide k4
  have hS4 := hS.kept k4 (Nat.ne_of_gt (unhide HL)) (by have := unhide HL; omega)
  refine hK _ _ (fun _ => hS4) ?_
  clear hS hK K h4 k4
  refine seq_do rfl (fun K hK => ?_)
  go_simp
  refine (unhide HK b _ a1 c1 _ (unhide A1) (unhide C1) (unhide H4)).mono ?_
  rintro e w5 ⟨rfl, h5, k5⟩
  have H5 := hide h5; have K5 := hide k5
  have hS5 := hS4.kept k5 (Nat.ne_of_gt (unhide HL)) (by have := unhide HL; omega)
  refine hK _ _ (fun _ => hS5) ?_
  clear hS4 hK K h5 k5
  refine seq_do rfl (fun K hK => ?_)
  go_simp
  refine (unhide HK b _ a2 c2 _ (unhide A2) (unhide C2) (unhide H5)).mono ?_
  rintro e w6 ⟨rfl, h6, k6⟩
  have H6 := hide h6; have K6 := hide k6
  have hS6 := hS5.kept k6 (Nat.ne_of_gt (unhide HL)) (by have := unhide HL; omega)
  refine hK _ _ (fun _ => hS6) ?_
  clear hS5 hK K h6 k6
  refine seq_read (v := ?_) rfl (fun _ _ _ h => h) (by rfl) hS6 ?_ ?_
  rotate_left 1
  · intro wx hwx
    clear hwx
    go_simp <;> exact rfl
  go_frame
  have V6 := hide (show VbAt w6 (w.heap.size + 1 + 1) 0 0 0 from by
    have hl := unhide HL
    exact (((show VbAt w3.drew (w.heap.size + 1 + 1) 0 0 0 from unhide R3).kept (unhide K4) (by omega)).kept (unhide K5) (by omega)).kept (unhide K6) (by omega))
  have c0 := (unhide V6).vc.1; have c1 := (unhide V6).vc.2.1; have c2 := (unhide V6).vc.2.2
  have f0 := (unhide V6).free 0; have f1 := (unhide V6).free 1; have f2 := (unhide V6).free 2
  refine seq_do rfl (fun K hK => ?_)
  go_simp
  refine hK _ _ (fun h => by cases h) ?_
  clear hK K hS6 c0 c1 c2 f0 f1 f2
  refine seq_end ?_
  obtain ⟨w7, e7, v7, k7⟩ := (unhide V6).set (clampZ (g a0 c0)) (clampZ (g a1 c1)) (clampZ (g a2 c2))
  rw [← e7]
  have F := hide (show RkAt w7 b (x || bentZ (g a0 c0) || bentZ (g a1 c1) || bentZ (g a2 c2)) ∧ Kept b w w7 from by
    have hl := unhide HL
    refine ⟨(unhide H6).kept k7 (by omega), ?_⟩
    have q3 : Kept b w w3.drew := (Kept.of_below (unhide K3)).trans (kept_drew w3) (Or.inl rfl)
    have q4 := (((q3.trans (unhide K4) (Or.inl rfl)).trans (unhide K5) (Or.inl rfl)).trans (unhide K6) (Or.inl rfl))
    exact q4.trans k7 (Or.inr (by omega)))
  have V7 := hide v7
  have p0 := v7.vc.1; have p1 := v7.vc.2.1; have p2 := v7.vc.2.2
  clear e7 v7 k7
  go_wp2_with fail
  refine bodyPost_ret (v := .agg #[.int .i64 (clampZ (g a0 c0)), .int .i64 (clampZ (g a1 c1)), .int .i64 (clampZ (g a2 c2))]) (by simp [results, Try.results28, go_sem, p0, p1, p2]) rfl ⟨rfl, (unhide F).1, (unhide F).2⟩

end Go.Proofs.Ythkfdlfgehdppaa
