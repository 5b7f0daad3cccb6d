/- Contract of the reference: Cross. -/
import Derived.Test.YthkfdlfgehdppaaRefVecs
import Derived.Test.YthkfdlfgehdppaaVecCross
import Derived.Deep.LoopGhost
namespace Go.Proofs.Ythkfdlfgehdppaa
open Go.RowKit

/-- A block of three numbers of whatever type. -/
def V3At (t : Nat) (w : World) (b : Nat) (x y z : Int) : Prop := w.heap[b]? = some (.cells #[.int .i64 x, .int .i64 y, .int .i64 z] t (0, 0))
theorem V3At.vc {t : Nat} {w : World} {b : Nat} {x y z : Int} (h : V3At t w b x y z) : VcAt w b x y z := by
  unfold V3At at h
  exact ⟨by simp [World.cell?, h], by simp [World.cell?, h], by simp [World.cell?, h]⟩
theorem V3At.free {t : Nat} {w : World} {b : Nat} {x y z : Int} (h : V3At t w b x y z) (i : Nat) : w.frozen? ⟨b, i, none⟩ = false := by
  unfold V3At at h; simp [World.frozen?, h]
theorem V3At.kept {t u : Nat} {w w' : World} {b : Nat} {x y z : Int} (h : V3At t w b x y z) (k : Kept u w w') (hz : b ≠ u) : V3At t w' b x y z := by
  unfold V3At at h ⊢; rw [k.block b (lt_of_block h) hz]; exact h
theorem V3At.below {t : Nat} {w w' : World} {b : Nat} {x y z : Int} (h : V3At t w b x y z) (k : Below w.heap.size w w') : V3At t w' b x y z := by
  unfold V3At at h ⊢; rw [k.block b (lt_of_block h)]; exact h
theorem V3At.new (t : Nat) (w : World) (x y z : Int) : V3At t (w.alloc (.cells #[.int .i64 x, .int .i64 y, .int .i64 z] t)) w.heap.size x y z := by
  unfold V3At
  show (w.heap.push _)[w.heap.size]? = _
  rw [Array.getElem?_push_size]
theorem V3At.set0 {t : Nat} {w : World} {b : Nat} {x y z : Int} (h : V3At t w b x y z) (p : Int) : V3At t (w.setCell ⟨b, 0, none⟩ (.int .i64 p)) b p y z := by
  unfold V3At at h ⊢; exact heap_setCell_same w b 0 _ _ (.int .i64 p) h
theorem V3At.set1 {t : Nat} {w : World} {b : Nat} {x y z : Int} (h : V3At t w b x y z) (p : Int) : V3At t (w.setCell ⟨b, 1, none⟩ (.int .i64 p)) b x p z := by
  unfold V3At at h ⊢; exact heap_setCell_same w b 1 _ _ (.int .i64 p) h
theorem V3At.set2 {t : Nat} {w : World} {b : Nat} {x y z : Int} (h : V3At t w b x y z) (p : Int) : V3At t (w.setCell ⟨b, 2, none⟩ (.int .i64 p)) b x y p := by
  unfold V3At at h ⊢; exact heap_setCell_same w b 2 _ _ (.int .i64 p) h

/-- What the reference's Cross has in memory. -/
structure CR (w : World) (a0 a1 a2 c0 c1 c2 : Int) (x : Bool) (p q r : Int) (u : World) : Prop where
  res : VbAt u (w.heap.size + 1 + 1) 0 0 0
  rk : RfAt u (w.heap.size + 1 + 1 + 1) x
  a : V3At 3 u (w.heap.size + 1 + 1 + 1 + 1) a0 a1 a2
  c : V3At 3 u (w.heap.size + 1 + 1 + 1 + 1 + 1) c0 c1 c2
  v : V3At 45 u (w.heap.size + 1 + 1 + 1 + 1 + 1 + 1) p q r
  bel : Below w.heap.size w u
theorem CR.six {w u : World} {a0 a1 a2 c0 c1 c2 : Int} {x : Bool} {p q r : Int} (h : CR w a0 a1 a2 c0 c1 c2 x p q r u) : Six (w.heap.size + 1 + 1 + 1 + 1) (w.heap.size + 1 + 1 + 1 + 1 + 1) a0 a1 a2 c0 c1 c2 u :=
  ⟨h.a.vc.1, h.a.vc.2.1, h.a.vc.2.2, h.c.vc.1, h.c.vc.2.1, h.c.vc.2.2⟩
theorem CR.kept {w u v : World} {a0 a1 a2 c0 c1 c2 : Int} {x y : Bool} {p q r : Int} (h : CR w a0 a1 a2 c0 c1 c2 x p q r u) (k : Kept (w.heap.size + 1 + 1 + 1) u v) (b : RfAt v (w.heap.size + 1 + 1 + 1) y) : CR w a0 a1 a2 c0 c1 c2 y p q r v :=
  ⟨h.res.kept k (by omega), b, h.a.kept k (by omega), h.c.kept k (by omega), h.v.kept k (by omega), below_of_kept h.bel k (by omega) h.bel.size⟩
theorem CR.drew {w u : World} {a0 a1 a2 c0 c1 c2 : Int} {x : Bool} {p q r : Int} (h : CR w a0 a1 a2 c0 c1 c2 x p q r u) : CR w a0 a1 a2 c0 c1 c2 x p q r u.drew :=
  ⟨h.res, h.rk, h.a, h.c, h.v, below_drew h.bel⟩
theorem CR.put {w u v : World} {a0 a1 a2 c0 c1 c2 : Int} {x : Bool} {p q r p' q' r' : Int} (h : CR w a0 a1 a2 c0 c1 c2 x p q r u) (k : Kept (w.heap.size + 1 + 1 + 1 + 1 + 1 + 1) u v) (g : V3At 45 v (w.heap.size + 1 + 1 + 1 + 1 + 1 + 1) p' q' r') : CR w a0 a1 a2 c0 c1 c2 x p' q' r' v :=
  ⟨h.res.kept k (by omega), h.rk.kept k (by omega), h.a.kept k (by omega), h.c.kept k (by omega), g, below_of_kept h.bel k (by omega) h.bel.size⟩

theorem cr_start (w : World) (a0 a1 a2 c0 c1 c2 : Int) : ∃ v0, v0 = ((((((w.alloc (.cells #[.int .i64 a0, .int .i64 a1, .int .i64 a2] 23)).alloc (.cells #[.int .i64 c0, .int .i64 c1, .int .i64 c2] 23)).alloc (.cells #[.int .i64 0, .int .i64 0, .int .i64 0] 23)).alloc (.cells #[.bool false] 39)).alloc
      (.cells #[.int .i64 a0, .int .i64 a1, .int .i64 a2] 3)).alloc (.cells #[.int .i64 c0, .int .i64 c1, .int .i64 c2] 3)).alloc (.cells #[.int .i64 0, .int .i64 0, .int .i64 0] 45) ∧
    CR w a0 a1 a2 c0 c1 c2 false 0 0 0 v0 := by
  obtain ⟨w3, e3, -, r3, b3⟩ := each_start w a0 a1 a2 c0 c1 c2
  have n3 : w3.heap.size = w.heap.size + 1 + 1 + 1 := by rw [e3, size_alloc, size_alloc, size_alloc]
  rw [← e3]
  clear e3
  have al : ∀ (u : World) (o : Obj), Below u.heap.size u (u.alloc o) := fun u o => (Below.refl _ _).alloc (Nat.le_refl _) _
  refine ⟨_, rfl, ?_⟩
  have k4 := al w3 (.cells #[.bool false] 39)
  have f4 := BlAt.new 39 w3 false
  have n4 := size_alloc w3 (.cells #[.bool false] 39)
  generalize w3.alloc (.cells #[.bool false] 39) = w4 at *
  have r4 := r3.below k4
  have b4 := b3.trans (k4.mono b3.size)
  rw [n3] at f4 n4
  have k5 := al w4 (.cells #[.int .i64 a0, .int .i64 a1, .int .i64 a2] 3)
  have f5 := V3At.new 3 w4 a0 a1 a2
  have n5 := size_alloc w4 (.cells #[.int .i64 a0, .int .i64 a1, .int .i64 a2] 3)
  generalize w4.alloc (.cells #[.int .i64 a0, .int .i64 a1, .int .i64 a2] 3) = w5 at *
  have r5 := r4.below k5
  have g5 := f4.below k5
  have b5 := b4.trans (k5.mono b4.size)
  rw [n4] at f5 n5
  have k6 := al w5 (.cells #[.int .i64 c0, .int .i64 c1, .int .i64 c2] 3)
  have f6 := V3At.new 3 w5 c0 c1 c2
  have n6 := size_alloc w5 (.cells #[.int .i64 c0, .int .i64 c1, .int .i64 c2] 3)
  generalize w5.alloc (.cells #[.int .i64 c0, .int .i64 c1, .int .i64 c2] 3) = w6 at *
  have r6 := r5.below k6
  have g6 := g5.below k6
  have h6 := f5.below k6
  have b6 := b5.trans (k6.mono b5.size)
  rw [n5] at f6 n6
  have k7 := al w6 (.cells #[.int .i64 0, .int .i64 0, .int .i64 0] 45)
  have f7 := V3At.new 45 w6 0 0 0
  rw [n6] at f7
  exact ⟨r6.below k7, g6.below k7, h6.below k7, f6.below k7, f7, b6.trans (k7.mono b6.size)⟩

/-- Did a step of the outer product stop, as the reference counts? -/
def refB (a0 a1 a2 c0 c1 c2 : Int) : Bool := (((false || bentZ (mulQ a1 c2) || bentZ (mulQ a2 c1) || bentZ ((clampZ (mulQ a1 c2)) - (clampZ (mulQ a2 c1)))) || bentZ (mulQ a2 c0) || bentZ (mulQ a0 c2) || bentZ ((clampZ (mulQ a2 c0)) - (clampZ (mulQ a0 c2)))) || bentZ (mulQ a0 c1) || bentZ (mulQ a1 c0) || bentZ ((clampZ (mulQ a0 c1)) - (clampZ (mulQ a1 c0))))
theorem refB_eq (a0 a1 a2 c0 c1 c2 : Int) : crossV a0 a1 a2 c0 c1 c2 = .tuple #[.agg #[.int .i64 (clampZ ((clampZ (mulQ a1 c2)) - (clampZ (mulQ a2 c1)))), .int .i64 (clampZ ((clampZ (mulQ a2 c0)) - (clampZ (mulQ a0 c2)))), .int .i64 (clampZ ((clampZ (mulQ a0 c1)) - (clampZ (mulQ a1 c0))))], .bool (refB a0 a1 a2 c0 c1 c2)] := by
  unfold crossV refB
  rw [Bool.false_or]
  generalize bentZ (mulQ a1 c2) = b1; generalize bentZ (mulQ a2 c0) = b2; generalize bentZ (mulQ a0 c1) = b3
  generalize bentZ (mulQ a2 c1) = b4; generalize bentZ (mulQ a0 c2) = b5; generalize bentZ (mulQ a1 c0) = b6
  generalize bentZ (clampZ (mulQ a1 c2) - clampZ (mulQ a2 c1)) = b7; generalize bentZ (clampZ (mulQ a2 c0) - clampZ (mulQ a0 c2)) = b8; generalize bentZ (clampZ (mulQ a0 c1) - clampZ (mulQ a1 c0)) = b9
  have e : (b1 || b2 || b3 || b4 || b5 || b6 || b7 || b8 || b9) = (b1 || b4 || b7 || b2 || b5 || b8 || b3 || b6 || b9) := by
    revert b1 b2 b3 b4 b5 b6 b7 b8 b9; decide
  rw [e]

set_option maxHeartbeats 4000000 in
theorem refCross_any (a0 a1 a2 c0 c1 c2 : Int) (w : World) (ha0 : R64 a0) (ha1 : R64 a1) (ha2 : R64 a2) (hc0 : R64 c0) (hc1 : R64 c1) (hc2 : R64 c2) :
    Calls Try.prog 18 #[.agg #[.int .i64 a0, .int .i64 a1, .int .i64 a2], .agg #[.int .i64 c0, .int .i64 c1, .int .i64 c2]] w fun e w' =>
      e = .returned (crossV a0 a1 a2 c0 c1 c2) ∧ Below w.heap.size w w' := by
  have A0 := hide ha0; have A1 := hide ha1; have A2 := hide ha2; have C0 := hide hc0; have C1 := hide hc1; have C2 := hide hc2
  obtain ⟨v0, e0, i0⟩ := cr_start w a0 a1 a2 c0 c1 c2
  have E0 := hide e0; have Iv0 := hide i0
  clear ha0 ha1 ha2 hc0 hc1 hc2 e0 i0
  go_enter Try.func18, Try.ntmps18
  go_wp2_with fail
  rw [← unhide E0]
  go_loopg [31] 3 (fun gk s wx => ∃ i : Nat, s = .int .i64 i ∧ gk = 3 - i ∧ ((i = 0 ∧ CR w a0 a1 a2 c0 c1 c2 false (0) (0) (0) wx) ∨ (i = 1 ∧ CR w a0 a1 a2 c0 c1 c2 (false || bentZ (mulQ a1 c2) || bentZ (mulQ a2 c1) || bentZ ((clampZ (mulQ a1 c2)) - (clampZ (mulQ a2 c1)))) (clampZ ((clampZ (mulQ a1 c2)) - (clampZ (mulQ a2 c1)))) (0) (0) wx) ∨ (i = 2 ∧ CR w a0 a1 a2 c0 c1 c2 ((false || bentZ (mulQ a1 c2) || bentZ (mulQ a2 c1) || bentZ ((clampZ (mulQ a1 c2)) - (clampZ (mulQ a2 c1)))) || bentZ (mulQ a2 c0) || bentZ (mulQ a0 c2) || bentZ ((clampZ (mulQ a2 c0)) - (clampZ (mulQ a0 c2)))) (clampZ ((clampZ (mulQ a1 c2)) - (clampZ (mulQ a2 c1)))) (clampZ ((clampZ (mulQ a2 c0)) - (clampZ (mulQ a0 c2)))) (0) wx) ∨ (i = 3 ∧ CR w a0 a1 a2 c0 c1 c2 (((false || bentZ (mulQ a1 c2) || bentZ (mulQ a2 c1) || bentZ ((clampZ (mulQ a1 c2)) - (clampZ (mulQ a2 c1)))) || bentZ (mulQ a2 c0) || bentZ (mulQ a0 c2) || bentZ ((clampZ (mulQ a2 c0)) - (clampZ (mulQ a0 c2)))) || bentZ (mulQ a0 c1) || bentZ (mulQ a1 c0) || bentZ ((clampZ (mulQ a0 c1)) - (clampZ (mulQ a1 c0)))) (clampZ ((clampZ (mulQ a1 c2)) - (clampZ (mulQ a2 c1)))) (clampZ ((clampZ (mulQ a2 c0)) - (clampZ (mulQ a0 c2)))) (clampZ ((clampZ (mulQ a0 c1)) - (clampZ (mulQ a1 c0)))) wx)))
  case atStart => exact ⟨0, rfl, rfl, Or.inl ⟨rfl, unhide Iv0⟩⟩
  case round =>
    obtain ⟨i, rfl, rfl, hc⟩ := hrel
    clear Iv0 E0
    rcases hc with ⟨rfl, ir⟩ | ⟨rfl, ir⟩ | ⟨rfl, ir⟩ | ⟨rfl, ir⟩
    · have Iwr := hide ir
      clear ir
      go_wp2_with fail
      refine region_by (S := Six (w.heap.size + 1 + 1 + 1 + 1) (w.heap.size + 1 + 1 + 1 + 1 + 1) a0 a1 a2 c0 c1 c2) [(0, false), (1, false), (2, false), (3, false), (4, false), (5, false), (6, false), (7, false), (8, false), (9, true), (10, true)] [] (by kernel_rfl) (by kernel_rfl) ?_
      have I := hide ((unhide Iwr).drew)
      have hS := (unhide I).six
      clear Iwr
      generalize wr.drew = ud at *
      iterate 9
        refine seq_read (v := ?_) rfl (fun _ _ _ h => h) (by rfl) hS ?_ ?_
        rotate_left 1
        · intro wx hwx
          obtain ⟨k1, k2, k3, k4, k5, k6⟩ := hwx
          go_simp <;> exact rfl
        go_frame
      refine seq_do rfl (fun K hK => ?_)
      go_simp
      refine (rfMul_ok _ _ a1 c2 _ (unhide A1) (unhide C2) (unhide I).rk).mono ?_
      rintro e t1 ⟨rfl, hh, kk⟩
      have It1 := hide ((unhide I).kept kk hh)
      refine hK _ _ (fun _ => (unhide It1).six) ?_
      clear hS hK K hh kk I
      refine seq_do rfl (fun K hK => ?_)
      go_simp
      refine hK _ _ (fun _ => (unhide It1).six) ?_
      clear hK K
      refine seq_end ?_
      go_wp2_with fail
      refine region_by (S := Six (w.heap.size + 1 + 1 + 1 + 1) (w.heap.size + 1 + 1 + 1 + 1 + 1) a0 a1 a2 c0 c1 c2) [(0, false), (1, false), (2, false), (3, false), (4, false), (5, false), (6, false), (7, false), (8, false), (9, true), (10, true)] [] (by kernel_rfl) (by kernel_rfl) ?_
      have I := hide ((unhide It1).drew)
      have hS := (unhide I).six
      clear It1
      generalize t1.drew = ud at *
      iterate 9
        refine seq_read (v := ?_) rfl (fun _ _ _ h => h) (by rfl) hS ?_ ?_
        rotate_left 1
        · intro wx hwx
          obtain ⟨k1, k2, k3, k4, k5, k6⟩ := hwx
          go_simp <;> exact rfl
        go_frame
      refine seq_do rfl (fun K hK => ?_)
      go_simp
      refine (rfMul_ok _ _ a2 c1 _ (unhide A2) (unhide C1) (unhide I).rk).mono ?_
      rintro e t2 ⟨rfl, hh, kk⟩
      have It2 := hide ((unhide I).kept kk hh)
      refine hK _ _ (fun _ => (unhide It2).six) ?_
      clear hS hK K hh kk I
      refine seq_do rfl (fun K hK => ?_)
      go_simp
      refine hK _ _ (fun _ => (unhide It2).six) ?_
      clear hK K
      refine seq_end ?_
      go_wp2_with fail
      refine (rfSub_ok _ _ _ _ _ (clampZ_R _) (clampZ_R _) (unhide It2).rk).mono ?_
      rintro e t3 ⟨rfl, hh, kk⟩
      have It3 := hide ((unhide It2).kept kk hh)
      clear hh kk It2
      have z0 := (unhide It3).v.vc.1; have z1 := (unhide It3).v.vc.2.1; have z2 := (unhide It3).v.vc.2.2; have zf := (unhide It3).v.free 0
      go_wp2_with fail
      go_roundg 2
      case measure => omega
      case rel => exact ⟨1, rfl, rfl, Or.inr (Or.inl ⟨rfl, (unhide It3).put (kept_set _ _ _ _) ((unhide It3).v.set0 _)⟩)⟩
    · have Iwr := hide ir
      clear ir
      go_wp2_with fail
      refine region_by (S := Six (w.heap.size + 1 + 1 + 1 + 1) (w.heap.size + 1 + 1 + 1 + 1 + 1) a0 a1 a2 c0 c1 c2) [(0, false), (1, false), (2, false), (3, false), (4, false), (5, false), (6, false), (7, false), (8, false), (9, true), (10, true)] [] (by kernel_rfl) (by kernel_rfl) ?_
      have I := hide ((unhide Iwr).drew)
      have hS := (unhide I).six
      clear Iwr
      generalize wr.drew = ud at *
      iterate 9
        refine seq_read (v := ?_) rfl (fun _ _ _ h => h) (by rfl) hS ?_ ?_
        rotate_left 1
        · intro wx hwx
          obtain ⟨k1, k2, k3, k4, k5, k6⟩ := hwx
          go_simp <;> exact rfl
        go_frame
      refine seq_do rfl (fun K hK => ?_)
      go_simp
      refine (rfMul_ok _ _ a2 c0 _ (unhide A2) (unhide C0) (unhide I).rk).mono ?_
      rintro e t1 ⟨rfl, hh, kk⟩
      have It1 := hide ((unhide I).kept kk hh)
      refine hK _ _ (fun _ => (unhide It1).six) ?_
      clear hS hK K hh kk I
      refine seq_do rfl (fun K hK => ?_)
      go_simp
      refine hK _ _ (fun _ => (unhide It1).six) ?_
      clear hK K
      refine seq_end ?_
      go_wp2_with fail
      refine region_by (S := Six (w.heap.size + 1 + 1 + 1 + 1) (w.heap.size + 1 + 1 + 1 + 1 + 1) a0 a1 a2 c0 c1 c2) [(0, false), (1, false), (2, false), (3, false), (4, false), (5, false), (6, false), (7, false), (8, false), (9, true), (10, true)] [] (by kernel_rfl) (by kernel_rfl) ?_
      have I := hide ((unhide It1).drew)
      have hS := (unhide I).six
      clear It1
      generalize t1.drew = ud at *
      iterate 9
        refine seq_read (v := ?_) rfl (fun _ _ _ h => h) (by rfl) hS ?_ ?_
        rotate_left 1
        · intro wx hwx
          obtain ⟨k1, k2, k3, k4, k5, k6⟩ := hwx
          go_simp <;> exact rfl
        go_frame
      refine seq_do rfl (fun K hK => ?_)
      go_simp
      refine (rfMul_ok _ _ a0 c2 _ (unhide A0) (unhide C2) (unhide I).rk).mono ?_
      rintro e t2 ⟨rfl, hh, kk⟩
      have It2 := hide ((unhide I).kept kk hh)
      refine hK _ _ (fun _ => (unhide It2).six) ?_
      clear hS hK K hh kk I
      refine seq_do rfl (fun K hK => ?_)
      go_simp
      refine hK _ _ (fun _ => (unhide It2).six) ?_
      clear hK K
      refine seq_end ?_
      go_wp2_with fail
      refine (rfSub_ok _ _ _ _ _ (clampZ_R _) (clampZ_R _) (unhide It2).rk).mono ?_
      rintro e t3 ⟨rfl, hh, kk⟩
      have It3 := hide ((unhide It2).kept kk hh)
      clear hh kk It2
      have z0 := (unhide It3).v.vc.1; have z1 := (unhide It3).v.vc.2.1; have z2 := (unhide It3).v.vc.2.2; have zf := (unhide It3).v.free 1
      go_wp2_with fail
      go_roundg 1
      case measure => omega
      case rel => exact ⟨2, rfl, rfl, Or.inr (Or.inr (Or.inl ⟨rfl, (unhide It3).put (kept_set _ _ _ _) ((unhide It3).v.set1 _)⟩))⟩
    · have Iwr := hide ir
      clear ir
      go_wp2_with fail
      refine region_by (S := Six (w.heap.size + 1 + 1 + 1 + 1) (w.heap.size + 1 + 1 + 1 + 1 + 1) a0 a1 a2 c0 c1 c2) [(0, false), (1, false), (2, false), (3, false), (4, false), (5, false), (6, false), (7, false), (8, false), (9, true), (10, true)] [] (by kernel_rfl) (by kernel_rfl) ?_
      have I := hide ((unhide Iwr).drew)
      have hS := (unhide I).six
      clear Iwr
      generalize wr.drew = ud at *
      iterate 9
        refine seq_read (v := ?_) rfl (fun _ _ _ h => h) (by rfl) hS ?_ ?_
        rotate_left 1
        · intro wx hwx
          obtain ⟨k1, k2, k3, k4, k5, k6⟩ := hwx
          go_simp <;> exact rfl
        go_frame
      refine seq_do rfl (fun K hK => ?_)
      go_simp
      refine (rfMul_ok _ _ a0 c1 _ (unhide A0) (unhide C1) (unhide I).rk).mono ?_
      rintro e t1 ⟨rfl, hh, kk⟩
      have It1 := hide ((unhide I).kept kk hh)
      refine hK _ _ (fun _ => (unhide It1).six) ?_
      clear hS hK K hh kk I
      refine seq_do rfl (fun K hK => ?_)
      go_simp
      refine hK _ _ (fun _ => (unhide It1).six) ?_
      clear hK K
      refine seq_end ?_
      go_wp2_with fail
      refine region_by (S := Six (w.heap.size + 1 + 1 + 1 + 1) (w.heap.size + 1 + 1 + 1 + 1 + 1) a0 a1 a2 c0 c1 c2) [(0, false), (1, false), (2, false), (3, false), (4, false), (5, false), (6, false), (7, false), (8, false), (9, true), (10, true)] [] (by kernel_rfl) (by kernel_rfl) ?_
      have I := hide ((unhide It1).drew)
      have hS := (unhide I).six
      clear It1
      generalize t1.drew = ud at *
      iterate 9
        refine seq_read (v := ?_) rfl (fun _ _ _ h => h) (by rfl) hS ?_ ?_
        rotate_left 1
        · intro wx hwx
          obtain ⟨k1, k2, k3, k4, k5, k6⟩ := hwx
          go_simp <;> exact rfl
        go_frame
      refine seq_do rfl (fun K hK => ?_)
      go_simp
      refine (rfMul_ok _ _ a1 c0 _ (unhide A1) (unhide C0) (unhide I).rk).mono ?_
      rintro e t2 ⟨rfl, hh, kk⟩
      have It2 := hide ((unhide I).kept kk hh)
      refine hK _ _ (fun _ => (unhide It2).six) ?_
      clear hS hK K hh kk I
      refine seq_do rfl (fun K hK => ?_)
      go_simp
      refine hK _ _ (fun _ => (unhide It2).six) ?_
      clear hK K
      refine seq_end ?_
      go_wp2_with fail
      refine (rfSub_ok _ _ _ _ _ (clampZ_R _) (clampZ_R _) (unhide It2).rk).mono ?_
      rintro e t3 ⟨rfl, hh, kk⟩
      have It3 := hide ((unhide It2).kept kk hh)
      clear hh kk It2
      have z0 := (unhide It3).v.vc.1; have z1 := (unhide It3).v.vc.2.1; have z2 := (unhide It3).v.vc.2.2; have zf := (unhide It3).v.free 2
      go_wp2_with fail
      go_roundg 0
      case measure => omega
      case rel => exact ⟨3, rfl, rfl, Or.inr (Or.inr (Or.inr (⟨rfl, (unhide It3).put (kept_set _ _ _ _) ((unhide It3).v.set2 _)⟩)))⟩
    · have Iwr := hide ir
      clear ir
      have z0 := (unhide Iwr).v.vc.1; have z1 := (unhide Iwr).v.vc.2.1; have z2 := (unhide Iwr).v.vc.2.2
      have q0 : wr.cell? ⟨w.heap.size + 1 + 1 + 1, 0, none⟩ = some (.bool (refB a0 a1 a2 c0 c1 c2)) := (unhide Iwr).rk.cell0
      have r0 := (unhide Iwr).res.vc.1; have r1 := (unhide Iwr).res.vc.2.1; have r2 := (unhide Iwr).res.vc.2.2
      have g0 := (unhide Iwr).res.free 0; have g1 := (unhide Iwr).res.free 1; have g2 := (unhide Iwr).res.free 2
      go_wp2_with fail
      go_region
      go_wp2_with fail
      obtain ⟨w6, e6, v6, k6⟩ := (unhide Iwr).res.set (clampZ ((clampZ (mulQ a1 c2)) - (clampZ (mulQ a2 c1)))) (clampZ ((clampZ (mulQ a2 c0)) - (clampZ (mulQ a0 c2)))) (clampZ ((clampZ (mulQ a0 c1)) - (clampZ (mulQ a1 c0))))
      rw [show ((wr.setCell ⟨w.heap.size + 1 + 1, 0, none⟩ (.int .i64 (clampZ ((clampZ (mulQ a1 c2)) - (clampZ (mulQ a2 c1)))))).setCell ⟨w.heap.size + 1 + 1, 1, none⟩ (.int .i64 (clampZ ((clampZ (mulQ a2 c0)) - (clampZ (mulQ a0 c2)))))).setCell ⟨w.heap.size + 1 + 1, 2, none⟩ (.int .i64 (clampZ ((clampZ (mulQ a0 c1)) - (clampZ (mulQ a1 c0))))) = w6 from e6.symm]
      have p0 := v6.vc.1; have p1 := v6.vc.2.1; have p2 := v6.vc.2.2
      refine bodyPost_ret (v := crossV a0 a1 a2 c0 c1 c2) (by rw [refB_eq]; simp [results, Try.results18, go_sem, p0, p1, p2]) rfl ⟨rfl, below_drew (below_of_kept (unhide Iwr).bel k6 (by omega) (unhide Iwr).bel.size)⟩

end Go.Proofs.Ythkfdlfgehdppaa
