/- Contracts of package agree: what each node hears from one itself. -/
import Derived.Test.YtomlpcbccfmejaaAgrOps
import Derived.Test.YtomlpcbccfmejaaRefAgr2
namespace Go.Proofs.Ytomlpcbccfmejaa
open Go.RowKit

theorem tellFirst_any (b : Nat) (bad : Int) (s ln : Nat) (v g : Nat → Int) (w0 w : World) (hs : s < 4) (hj : TJ w0 g ln bad b (bsN bad s) w) (hk : Below w0.heap.size w0 w) (hb : w0.heap.size ≤ b) :
    Calls Try.prog 17 #[.pointer (some ⟨b, 0, none⟩), .int .i64 (s : Nat), .int .i64 (v s)] w fun e w' => ∃ H : Nat → Int, e = .returned (fourV H) ∧ (∀ r, r < 4 → r ≠ s → H r = hdF v bad (liF g ln) s r) ∧ TJ w0 g ln bad b (cB bad s) w' ∧ Kept b w w' := by
  obtain ⟨w1, e1, m1, k1, z1⟩ := f4_alloc w (fun _ => 0)
  obtain ⟨w2, e2, m2, k2, z2⟩ := f4_alloc w1 (fun _ => 0)
  rw [z1] at m2
  have hbw := hj.lt
  have M1 := hide (m1.below k2); have M2 := hide m2; have J2 := hide ((hj.below k1).below k2)
  have K2 := hide (show Kept b w w2 from (Kept.of_below k1).trans (Kept.of_below k2) (Or.inl rfl))
  have HK := hide hk
  have E1 := hide e1; have E2 := hide e2
  have z2' : w2.heap.size = w.heap.size + 1 + 1 := by omega
  clear m1 m2 k1 k2 hj hk e1 e2 z1 z2
  go_enter Try.func17, Try.ntmps17
  go_wp2_with fail
  rw [← unhide E1, ← unhide E2]
  go_loopw [10] (fun rs wx => ∃ (r : Nat) (H : Nat → Int) (c : Nat), rs = .int .i64 r ∧ r ≤ 4 ∧ F4 wx (w.heap.size + 1) H ∧ F4 wx w.heap.size (fun _ => 0) ∧ TJ w0 g ln bad b c wx ∧ Kept b w wx ∧ w.heap.size + 1 + 1 ≤ wx.heap.size ∧ c = bsN bad s + (if (s : Int) = bad then (if r ≤ s then r else r - 1) else 0) ∧ ∀ j, j < r → j ≠ s → H j = hdF v bad (liF g ln) s j) (fun rs _ => 4 - (intOf rs).toNat)
  case atStart => exact ⟨0, _, _, rfl, by omega, unhide M2, unhide M1, unhide J2, unhide K2, by omega, by split <;> (try split) <;> omega, fun j h _ => absurd h (by omega)⟩
  case round =>
    obtain ⟨r, H, c, rfl, hr4', mH, mZ, hJ, hK, hz, ec, hH⟩ := hrel
    rename World => wx
    have RH := hide mH; have RZ := hide mZ; have RJ := hide hJ; have RK := hide hK; have EC := hide ec; have HH := hide hH
    clear mH mZ hJ hK ec hH M1 M2 J2 K2
    by_cases hr4 : r < 4
    · have hr4i : (r : Int) < 4 := by omega
      by_cases hrs : r = s
      · have trs : (((r : Nat) : Int) != ((s : Nat) : Int)) = false := by simp [hrs]
        have F := hide (show c = bsN bad s + (if (s : Int) = bad then (if r + 1 ≤ s then r + 1 else r + 1 - 1) else 0) by rw [unhide EC]; split <;> (try split) <;> (try split) <;> omega)
        have G := hide (show ∀ j, j < r + 1 → j ≠ s → H j = hdF v bad (liF g ln) s j from fun j hj hn => unhide HH j (by omega) hn)
        clear hrs
        go_wp2_with fail
        go_roundw
        case rel => exact ⟨r + 1, H, c, by go_num, by omega, unhide RH, unhide RZ, unhide RJ, unhide RK, by omega, unhide F, unhide G⟩
        case measure => simp [intOf] <;> omega
      · have trs : (((r : Nat) : Int) != ((s : Nat) : Int)) = true := by simp; omega
        have F := hide (show (if (s : Int) = bad then c + 1 else c) = bsN bad s + (if (s : Int) = bad then (if r + 1 ≤ s then r + 1 else r + 1 - 1) else 0) by rw [unhide EC]; split <;> (try split) <;> (try split) <;> omega)
        have HD := hide (show hdF v bad (liF g ln) s r = (if (s : Int) = bad then liF g ln c else v s) by
          unfold hdF
          by_cases e : (s : Int) = bad
          · rw [if_pos ⟨e, hrs⟩, if_pos e, unhide EC, if_pos e]; congr 2; split <;> split <;> omega
          · rw [if_neg (fun h => e h.1), if_neg e])
        obtain ⟨c', ec'⟩ : ∃ c', (if (s : Int) = bad then c + 1 else c) = c' := ⟨_, rfl⟩
        obtain ⟨y, ey⟩ : ∃ y, (if (s : Int) = bad then liF g ln c else v s) = y := ⟨_, rfl⟩
        rw [ec'] at F
        rw [ey] at HD
        have EC' := hide ec'; have EY := hide ey
        clear ec' ey
        go_wp2_with fail
        refine (tellNext_any b bad c ln g w0 _ (s : Nat) (v s) (unhide RJ) (below_of_kept (unhide HK) (unhide RK) hb (by have := (unhide HK).size; omega))).mono ?_
        rw [unhide EC', unhide EY]
        rintro e w4 ⟨rfl, j4, k4⟩
        have h4 := (unhide RH).kept k4 (by omega)
        have ch := h4.cell hr4; have fh := h4.free r
        have kk := kept_set w4 (w.heap.size + 1) r (.int .i64 y)
        have H5 := hide (h4.set r y); have J5 := hide (j4.kept kk (by omega)); have Z5 := hide (((unhide RZ).kept k4 (by omega)).kept kk (by omega))
        have K5 := hide (show Kept b w (w4.setCell ⟨w.heap.size + 1, r, none⟩ (.int .i64 y)) from ((unhide RK).trans k4 (Or.inl rfl)).trans kk (Or.inr (by omega)))
        have S5 := hide (show w.heap.size + 1 + 1 ≤ (w4.setCell ⟨w.heap.size + 1, r, none⟩ (.int .i64 y)).heap.size from Nat.le_trans hz (Nat.le_trans k4.size kk.size))
        clear j4 k4 h4 kk RH RJ RK RZ
        go_wp2_with fail
        go_roundw
        case rel =>
          refine ⟨r + 1, _, c', by go_num, by omega, unhide H5, unhide Z5, unhide J5, unhide K5, unhide S5, unhide F, fun j hj hn => ?_⟩
          show (if j = r then y else H j) = _
          by_cases e : j = r
          · rw [if_pos e, e, unhide HD]
          · rw [if_neg e, unhide HH j (by omega) hn]
        case measure => simp [intOf] <;> omega
    · have e9 : r = 4 := by omega
      subst e9
      rw [show ((4 : Nat) : Int) = 4 from rfl]
      have EB := hide (show c = cB bad s by rw [unhide EC]; unfold cB; split <;> (try split) <;> omega)
      clear EC
      go_wp2_with (first | refine wpList_load4 _ rfl (.tmp 7) rfl rfl (unhide RH) ?_ | (refine wpList_store4 _ rfl (.tmp 6) (.tmp 23) rfl rfl rfl (unhide RZ) rfl ?_; intro w5 m5 k5; have J5 := hide ((unhide RJ).kept k5 (by omega)); have K5 := hide ((unhide RK).trans k5 (Or.inr (Nat.le_refl _))); clear RJ RK RH RZ k5))
      have p0 := m5.cell (show 0 < 4 by omega); have p1 := m5.cell (show 1 < 4 by omega); have p2 := m5.cell (show 2 < 4 by omega); have p3 := m5.cell (show 3 < 4 by omega)
      refine bodyPost_ret (v := fourV H) (by unfold fourV; simp [results, Try.results17, go_sem, p0, p1, p2, p3]) rfl ⟨H, rfl, unhide HH, ?_, unhide K5⟩
      rw [← unhide EB]
      exact unhide J5

end Go.Proofs.Ytomlpcbccfmejaa
