/- Contracts of the reference's whole numbers of any size: the division of a number of more than 64 bits by one word. -/
import Derived.Test.YtgikknoklnbihaaBigRight
import Derived.Test.YtgikknoklnbihaaBigDivS
namespace Go.Proofs.Ytgikknoklnbihaa
open Go.RowKit

set_option maxHeartbeats 1000000 in
set_option maxRecDepth 100000 in
theorem div_one (X Y : Int) (h0 : 0 < Y) (h : 18446744073709551616 ≤ X) (h1 : Y < 4294967296) : DivOK X Y := by
  intro n m fa fb va vb w ha hb wa wb na nb hn hm hX hY
  have m0 : m ≠ 0 := by
    intro h2
    subst h2
    have : val fb 0 = 0 := rfl
    omega
  obtain rfl : m = 1 := by
    have := len_le (k := 1) wb nb (show val fb m < 4294967296 by omega)
    omega
  have n3 : 3 ≤ n := by
    rcases Nat.lt_or_ge n 3 with h2 | h2
    · have := (val_bd wa).2
      have h3 : (4294967296 : Int) ^ n ≤ 4294967296 ^ 2 := by rw [pow32, pow32]; exact pow_le_two (by omega)
      have h4 : (4294967296 : Int) ^ 2 = 18446744073709551616 := by decide
      omega
    · exact h2
  have c0 : 0 ≤ cmpZ (val fa n) (val fb 1) := by unfold cmpZ; rw [if_neg (by omega)]; split <;> decide
  obtain rfl : fb 0 = Y := by rw [← hY]; show fb 0 = 0 + fb 0 * 4294967296 ^ 0; simp
  have HA := hide ha; have HB := hide hb; have WA := hide wa; have WB := hide wb; have NA := hide na; have NB := hide nb; have HX := hide hX
  obtain ⟨ao, capa, rfl, -, -, -⟩ := ha.view
  rcases hb with ⟨-, h2⟩ | ⟨bb, capb, rfl, -, -, hbb, hrb⟩
  · cases h2
  have cb := hrb 0 (by omega)
  have r0 : 0 ≤ X % fb 0 := Int.emod_nonneg _ (by omega)
  have r1 : X % fb 0 < fb 0 := Int.emod_lt_of_pos _ h0
  clear ha wa wb na nb hX hY hrb m0 h
  go_enter Try.func67, Try.ntmps67
  go_wp2_with fail
  refine (cmp_words _ _ n 1 fa fb (by omega) (by omega) _ (unhide HA) (unhide HB) (unhide WA) (unhide WB) (unhide NA) (unhide NB)).mono ?_
  rintro e w1 ⟨rfl, hd⟩
  have HD := hide (hd.below w.heap.size)
  have cb1 := cell_below cb (unhide HD)
  clear hd
  go_wp2_with fail
  refine (small_any _ n fa (fb 0) h0 h1 (by omega) _ ((unhide HA).below (unhide HD)) (unhide WA)).mono ?_
  rintro e w2 ⟨v1, l1, f1, rfl, s1, d1, m1, e1, b1⟩
  rw [unhide HX] at e1
  have S1 := hide s1; have D1 := hide d1; have M1 := hide m1; have E1 := hide e1
  have B2 := hide (below_two (unhide HD) b1 (unhide HD).size)
  clear s1 d1 m1 e1 b1
  rw [unhide HX]
  obtain ⟨r, er⟩ : ∃ r, X % fb 0 = r := ⟨_, rfl⟩
  rw [er] at r0 r1 ⊢
  go_wp2_with fail
  have hr : Row (w2.alloc (.cells #[.int .u32 r] 66)) w2.heap.size 1 (fun _ => r) := by
    intro i hi
    rw [World.cell?_alloc_new]
    match i, hi with
    | 0, _ => rfl
  refine (trim_core w2.heap.size 1 1 _ (by decide) (by decide) _ hr).mono ?_
  rintro e w3 ⟨l, rfl, hl, hz, hnm, rfl⟩
  have F := hide (show Sl (w2.alloc (.cells #[.int .u32 r] 66)) v1 l1 f1 ∧ Wd l1 f1 ∧ Nm l1 f1 ∧ Sl (w2.alloc (.cells #[.int .u32 r] 66)) (.slice (some ⟨w2.heap.size, 0, none⟩) l 1) l (fun _ => r) ∧ Wd l (fun _ => r) ∧ Nm l (fun _ => r) ∧ val f1 l1 = X / fb 0 ∧ val (fun _ => r) l = X % fb 0 ∧ Below w.heap.size w (w2.alloc (.cells #[.int .u32 r] 66)) from by
    refine ⟨(unhide S1).below (below_new w2 _), unhide D1, unhide M1, Or.inr ⟨_, _, rfl, hl, by decide, by simp, hr.less hl⟩, fun _ _ => ⟨r0, show r < 4294967296 by omega⟩, hnm, unhide E1, ?_, below_two (unhide B2) (below_new w2 _) (unhide B2).size⟩
    rw [← val_noughts hl hz, er]
    show 0 + r * 4294967296 ^ 0 = r
    simp)
  clear hr hz hnm
  go_wp2_with fail
  go_ret2
  exact ⟨_, _, l1, l, f1, _, rfl, unhide F⟩

end Go.Proofs.Ytgikknoklnbihaa
