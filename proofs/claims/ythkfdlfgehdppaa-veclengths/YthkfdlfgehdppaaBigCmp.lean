/- Contracts of the reference's whole numbers of any size: Cmp and Sqrt. -/
import Derived.Test.YthkfdlfgehdppaaBigBit
namespace Go.Proofs.Ythkfdlfgehdppaa
open Go.RowKit

theorem cmpZ_neg (a b : Int) : cmpZ (-a) (-b) = -cmpZ a b := by
  unfold cmpZ; split <;> split <;> (try split) <;> (try split) <;> omega

set_option maxHeartbeats 1000000 in
theorem cmp_any (bx by_ : Nat) (x y : Int) (w : World) (hx : Num w bx x) (hy : Num w by_ y) (dx : Bd x) (dy : Bd y) :
    Calls Try.prog 59 #[.pointer (some ⟨bx, 0, none⟩), .pointer (some ⟨by_, 0, none⟩)] w fun e w' => e = .returned (.int .i64 (cmpZ x y)) ∧ Drw w w' := by
  obtain ⟨xn, xv, n, fa, hx1, hx2, hx3, hx4, hx5, hx6⟩ := hx
  obtain ⟨yn, yv, m, fb, hy1, hy2, hy3, hy4, hy5, hy6⟩ := hy
  have hn : n ≤ 100 := by
    unfold Bd at dx
    rw [hx5, absZ_sgn (val_bd hx3).1] at dx
    exact len_le hx3 hx4 dx
  have hm : m ≤ 100 := by
    unfold Bd at dy
    rw [hy5, absZ_sgn (val_bd hy3).1] at dy
    exact len_le hy3 hy4 dy
  have c1 := hx1.cell0; have c2 := hx1.cell1; have c3 := hy1.cell0; have c4 := hy1.cell1
  have E := hide (show cmpZ x y = (if xn = yn then (if xn = true then -cmpZ (val fa n) (val fb m) else cmpZ (val fa n) (val fb m)) else if xn = true then -1 else 1) from by
    rw [hx5, hy5]
    have a0 := (val_bd hx3).1
    have b0 := (val_bd hy3).1
    cases xn <;> cases yn
    · rfl
    · have : m ≠ 0 := fun h => by have := hy6 h; cases this
      have := val_pos hy3 hy4 this
      show cmpZ (val fa n) (-val fb m) = 1
      unfold cmpZ
      rw [if_neg (by omega), if_pos (by omega)]
    · have : n ≠ 0 := fun h => by have := hx6 h; cases this
      have := val_pos hx3 hx4 this
      show cmpZ (-val fa n) (val fb m) = -1
      unfold cmpZ
      rw [if_pos (by omega)]
    · exact cmpZ_neg _ _)
  have HX2 := hide hx2; have HX3 := hide hx3; have HX4 := hide hx4; have HY2 := hide hy2; have HY3 := hide hy3; have HY4 := hide hy4
  obtain ⟨ao, capa, rfl, -, -, -⟩ := hx2.view
  obtain ⟨bo, capb, rfl, -, -, -⟩ := hy2.view
  clear hx1 hx2 hx3 hx4 hx5 hx6 hy1 hy2 hy3 hy4 hy5 hy6 dx dy
  by_cases hs : xn = yn
  · subst hs
    rw [if_pos rfl] at E
    go_enter Try.func59, Try.ntmps59
    go_wp2_with fail
    go_region
    have tt : (xn != xn) = false := by cases xn <;> rfl
    go_wp2_with fail
    refine region_by (S := Two bx by_ (.bool xn) (.slice ao n capa) (.bool xn) (.slice bo m capb))
      [(0, false), (1, false), (2, false), (3, false), (4, false), (5, false), (6, false), (7, false), (8, true), (9, true)] [] (by kernel_rfl) (by kernel_rfl) ?_
    have hS : Two bx by_ (.bool xn) (.slice ao n capa) (.bool xn) (.slice bo m capb) w.drew.drew := ⟨c1, c2, c3, c4⟩
    iterate 8
      refine seq_read (v := ?_) rfl (fun _ _ _ h => h) (by rfl) hS ?_ ?_
      rotate_left 1
      · intro wx hwx
        obtain ⟨k1, k2, k3, k4⟩ := hwx
        go_simp <;> exact rfl
      go_frame
    refine seq_do rfl (fun K hK => ?_)
    go_simp
    refine (cmp_words _ _ n m fa fb (by omega) (by omega) _ (by exact unhide HX2) (by exact unhide HY2) (unhide HX3) (unhide HY3) (unhide HX4) (unhide HY4)).mono ?_
    rintro e w1 ⟨rfl, hd⟩
    have hd2 : Drw w w1 := (Drw.refl w).drew.drew.trans hd
    have hS1 : Two bx by_ (.bool xn) (.slice ao n capa) (.bool xn) (.slice bo m capb) w1 := hS.below (hd.below _)
    refine hK _ _ (fun _ => hS1) ?_
    clear hK K
    refine seq_do rfl (fun K hK => ?_)
    go_simp
    refine hK _ _ (fun _ => hS1) ?_
    clear hK K
    refine seq_end ?_
    obtain ⟨k1, k2, k3, k4⟩ := hS1
    have HD := hide hd2
    clear hd hd2 hS k2 k3 k4 c1 c2 c3 c4
    obtain ⟨c, ec⟩ : ∃ c, cmpZ (val fa n) (val fb m) = c := ⟨_, rfl⟩
    obtain ⟨b0, b1⟩ : -1 ≤ c ∧ c ≤ 1 := by rw [← ec]; unfold cmpZ; split <;> (try split) <;> omega
    rw [ec] at E ⊢
    clear ec
    cases xn
    · go_wp2_with fail
      go_ret
      exact ⟨by rw [unhide E]; rfl, unhide HD⟩
    · go_wp2_with fail
      go_ret
      exact ⟨by rw [unhide E, if_pos True.intro]; rfl, unhide HD⟩
  · rw [if_neg hs] at E
    cases xn <;> cases yn
    · exact absurd rfl hs
    · go_enter Try.func59, Try.ntmps59
      go_wp2_with fail
      go_region
      go_wp2_with fail
      go_ret
      exact ⟨by rw [unhide E]; rfl, (Drw.refl w).drew⟩
    · go_enter Try.func59, Try.ntmps59
      go_wp2_with fail
      go_region
      go_wp2_with fail
      go_ret
      exact ⟨by rw [unhide E, if_pos True.intro]; rfl, (Drw.refl w).drew⟩
    · exact absurd rfl hs

end Go.Proofs.Ythkfdlfgehdppaa
