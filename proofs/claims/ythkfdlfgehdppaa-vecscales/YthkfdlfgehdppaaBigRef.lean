/- Contracts of the reference's stop, Add and Sub: exactly the sum and the difference, stopped at the ends. -/
import Derived.Test.YthkfdlfgehdppaaBigStop3
namespace Go.Proofs.Ythkfdlfgehdppaa
open Go.RowKit

set_option maxHeartbeats 400000 in
theorem sign_any (b : Nat) (x : Int) (w : World) (hx : Num w b x) :
    Calls Try.prog 66 #[.pointer (some ⟨b, 0, none⟩)] w fun e w' => e = .returned (.int .i64 (cmpZ x 0)) ∧ w' = w := by
  obtain ⟨neg, v, n, f, h1, h2, h3, h4, h5, h6⟩ := hx
  have c0 := h1.cell0; have c1 := h1.cell1
  obtain ⟨ao, cap, rfl, -, -, -⟩ := h2.view
  rcases Nat.eq_zero_or_pos n with h0 | h0
  · subst h0
    have E := hide (cmpZ_eq (show x = 0 by rw [h5, h6 rfl]; rfl))
    clear h1 h2 h3 h4 h5 h6
    go_enter Try.func66, Try.ntmps66
    go_wp2
    go_ret
    exact ⟨by rw [unhide E]; rfl, rfl⟩
  · have t : ((n : Int) == 0) = false := by simp; omega
    have hp := val_pos h3 h4 (by omega)
    cases neg
    · have E := hide (cmpZ_gt (show 0 < x by rw [h5]; exact hp))
      clear h1 h2 h3 h4 h5 h6 hp
      go_enter Try.func66, Try.ntmps66
      go_wp2
      go_ret
      exact ⟨by rw [unhide E]; rfl, rfl⟩
    · have E := hide (cmpZ_lt (show x < 0 by rw [h5]; show -val f n < 0; omega))
      clear h1 h2 h3 h4 h5 h6 hp
      go_enter Try.func66, Try.ntmps66
      go_wp2
      go_ret
      exact ⟨by rw [unhide E]; rfl, rfl⟩

set_option maxHeartbeats 400000 in
theorem refStop_any (b : Nat) (x : Int) (w : World) (hx : Num w b x) (dx : Bd x) :
    Calls Try.prog 46 #[.pointer (some ⟨b, 0, none⟩)] w fun e w' => e = .returned (.tuple #[.int .i64 (clampZ x), .bool (bentZ x)]) ∧ w' = w := by
  have HX := hide hx; have DX := hide dx
  clear hx dx
  go_enter Try.func46, Try.ntmps46
  go_wp2_with fail
  refine (isInt64_any b x _ (unhide HX) (unhide DX)).mono ?_
  rintro e w1 ⟨rfl, rfl⟩
  by_cases h : R64 x
  · rw [bentZ_in h]
    have E := hide (clampZ_in h)
    have HR := hide h
    have hx1 := h.1; have hx2 := h.2
    clear h
    go_wp2_with fail
    refine (int64_any b x _ (unhide HX) (unhide HR)).mono ?_
    rintro e w2 ⟨rfl, rfl⟩
    go_wp2_with fail
    go_ret2
    exact ⟨by rw [unhide E, bentZ_in (unhide HR)]; rfl, rfl⟩
  · rw [bentZ_not h]
    have EB := hide (bentZ_not h)
    by_cases hp : 0 < x
    · have E := hide (clampZ_up (show 9223372036854775807 < x by unfold R64 at h; omega))
      have EC := hide (cmpZ_gt hp)
      clear h
      go_wp2_with fail
      refine (sign_any b x _ (unhide HX)).mono ?_
      rintro e w2 ⟨rfl, rfl⟩
      rw [unhide EC]
      go_wp2_with fail
      go_ret2
      exact ⟨by rw [unhide E, unhide EB]; rfl, rfl⟩
    · have E := hide (clampZ_down (show x < -9223372036854775808 by unfold R64 at h; omega))
      have EC := hide (cmpZ_lt (show x < 0 by unfold R64 at h; omega))
      clear h hp
      go_wp2_with fail
      refine (sign_any b x _ (unhide HX)).mono ?_
      rintro e w2 ⟨rfl, rfl⟩
      rw [unhide EC]
      go_wp2_with fail
      go_ret2
      exact ⟨by rw [unhide E, unhide EB]; rfl, rfl⟩

theorem bd_of {x : Int} {k : Nat} (h : absZ x < 4294967296 ^ k) (hk : k ≤ 100) : Bd x := by
  unfold Bd
  obtain ⟨d, hd⟩ : ∃ d, 100 = k + d := ⟨100 - k, by omega⟩
  rw [hd, Int.pow_add]
  have := Int.mul_le_mul_of_nonneg_left (show 1 ≤ (4294967296 : Int) ^ d from pow_pos d) (Int.le_of_lt (pow_pos k))
  omega
theorem bd64 {x : Int} (h : R64 x) : Bd x := bd_of (k := 2) (by have := absZ_bd h; show _ < (18446744073709551616 : Int); omega) (by decide)
theorem absZ_add (x y : Int) : absZ (x + y) ≤ absZ x + absZ y := by unfold absZ; split <;> split <;> split <;> omega
theorem absZ_sub (x y : Int) : absZ (x - y) ≤ absZ x + absZ y := by unfold absZ; split <;> split <;> split <;> omega
/-- Below a block, over two steps. -/
theorem below_two {B : Nat} {a b c : World} (h : Below B a b) (k : Below b.heap.size b c) (hB : B ≤ b.heap.size) : Below B a c := h.trans (k.mono hB)
/-- A step that writes one block which was not there. -/
theorem below_kept {w w1 w2 : World} {z : Nat} (h : Below w.heap.size w w1) (k : Kept z w1 w2) (hz : w.heap.size ≤ z) : Below w.heap.size w w2 :=
  ((Kept.of_below (z := z) h).trans k (Or.inl rfl)).below hz

set_option maxHeartbeats 400000 in
theorem refAdd_any (a b : Int) (ha : R64 a) (hb : R64 b) (w : World) :
    Calls Try.prog 34 #[.int .i64 a, .int .i64 b] w fun e w' => e = .returned (.tuple #[.int .i64 (clampZ (a + b)), .bool (bentZ (a + b))]) ∧ Below w.heap.size w w' := by
  have HA := hide ha; have HB := hide hb
  have D := hide (show Bd (a + b) from bd_of (k := 3) (by have h1 := absZ_bd ha; have h2 := absZ_bd hb; have h3 := absZ_add a b; show _ < (79228162514264337593543950336 : Int); omega) (by decide))
  clear ha hb
  go_enter Try.func34, Try.ntmps34
  go_wp2_with fail
  refine (whole_any a (unhide HA) _).mono ?_
  rintro e w1 ⟨b1, rfl, hb1, n1, k1⟩
  have N1 := hide n1; have K1 := hide k1
  clear n1 k1 hb1
  go_wp2_with fail
  refine (whole_any b (unhide HB) _).mono ?_
  rintro e w2 ⟨b2, rfl, hb2, n2, k2⟩
  have N2 := hide n2; have K2 := hide k2
  clear n2 k2 hb2
  have HW := hide (show Below w.heap.size w w2 from by
    have h1 := below_two (below_new w _) (unhide K1) (by simp)
    exact below_two h1 (unhide K2) h1.size)
  go_wp2_with fail
  refine (intAdd_any w.heap.size b1 b2 a b _ _ _ (((intAt_new w).below (unhide K1)).below (unhide K2)) ((unhide N1).below (unhide K2)) (unhide N2) (bd64 (unhide HA)) (bd64 (unhide HB))).mono ?_
  rintro e w3 ⟨rfl, n3, k3⟩
  have N3 := hide n3
  have HW3 := hide (below_kept (unhide HW) k3 (Nat.le_refl _))
  clear n3 k3
  go_wp2_with fail
  refine (refStop_any _ _ _ (unhide N3) (unhide D)).mono ?_
  rintro e w4 ⟨rfl, rfl⟩
  go_wp2_with fail
  go_ret2
  exact ⟨rfl, unhide HW3⟩

set_option maxHeartbeats 400000 in
theorem refSub_any (a b : Int) (ha : R64 a) (hb : R64 b) (w : World) :
    Calls Try.prog 37 #[.int .i64 a, .int .i64 b] w fun e w' => e = .returned (.tuple #[.int .i64 (clampZ (a - b)), .bool (bentZ (a - b))]) ∧ Below w.heap.size w w' := by
  have HA := hide ha; have HB := hide hb
  have D := hide (show Bd (a - b) from bd_of (k := 3) (by have h1 := absZ_bd ha; have h2 := absZ_bd hb; have h3 := absZ_sub a b; show _ < (79228162514264337593543950336 : Int); omega) (by decide))
  clear ha hb
  go_enter Try.func37, Try.ntmps37
  go_wp2_with fail
  refine (whole_any a (unhide HA) _).mono ?_
  rintro e w1 ⟨b1, rfl, hb1, n1, k1⟩
  have N1 := hide n1; have K1 := hide k1
  clear n1 k1 hb1
  go_wp2_with fail
  refine (whole_any b (unhide HB) _).mono ?_
  rintro e w2 ⟨b2, rfl, hb2, n2, k2⟩
  have N2 := hide n2; have K2 := hide k2
  clear n2 k2 hb2
  have HW := hide (show Below w.heap.size w w2 from by
    have h1 := below_two (below_new w _) (unhide K1) (by simp)
    exact below_two h1 (unhide K2) h1.size)
  go_wp2_with fail
  refine (intSub_any w.heap.size b1 b2 a b _ _ _ (((intAt_new w).below (unhide K1)).below (unhide K2)) ((unhide N1).below (unhide K2)) (unhide N2) (bd64 (unhide HA)) (bd64 (unhide HB))).mono ?_
  rintro e w3 ⟨rfl, n3, k3⟩
  have N3 := hide n3
  have HW3 := hide (below_kept (unhide HW) k3 (Nat.le_refl _))
  clear n3 k3
  go_wp2_with fail
  refine (refStop_any _ _ _ (unhide N3) (unhide D)).mono ?_
  rintro e w4 ⟨rfl, rfl⟩
  go_wp2_with fail
  go_ret2
  exact ⟨rfl, unhide HW3⟩

end Go.Proofs.Ythkfdlfgehdppaa
