/- Contracts of the reference's whole numbers of any size: plain, and the division of numbers of at most 64 bits. -/
import Derived.Test.YtgikknoklnbihaaBigTwin
namespace Go.Proofs.Ytgikknoklnbihaa
open Go.RowKit

set_option maxHeartbeats 400000 in
theorem plain_any (va : Value) (n : Nat) (f : Nat → Int) (hn : n ≤ 2) (w : World) (ha : Sl w va n f) (wa : Wd n f) :
    Calls Try.prog 74 #[va] w fun e w' => e = .returned (.int .u64 (val f n)) ∧ w' = w := by
  rcases (show n = 0 ∨ n = 1 ∨ n = 2 by omega) with rfl | rfl | rfl
  · obtain ⟨ao, cap, rfl, -, -, -⟩ := ha.view
    clear ha wa
    go_enter Try.func74, Try.ntmps74
    go_wp2
    go_ret
    exact ⟨rfl, rfl⟩
  · have ev := hide (show val f 1 = f 0 by show 0 + f 0 * 4294967296 ^ 0 = f 0; simp)
    obtain ⟨t0, t1⟩ := wa 0 (by omega)
    rcases ha with ⟨-, h⟩ | ⟨bv, cap, rfl, -, -, -, hr⟩
    · cases h
    have k0 := hr 0 (by omega)
    clear wa hr
    go_enter Try.func74, Try.ntmps74
    go_wp2
    go_ret
    exact ⟨by rw [unhide ev]; rfl, rfl⟩
  · have ev := hide (show val f 2 = f 1 * 4294967296 + f 0 by show 0 + f 0 * 4294967296 ^ 0 + f 1 * 4294967296 ^ 1 = _; simp; omega)
    obtain ⟨t0, t1⟩ := wa 0 (by omega)
    obtain ⟨t2, t3⟩ := wa 1 (by omega)
    rcases ha with ⟨-, h⟩ | ⟨bv, cap, rfl, -, -, -, hr⟩
    · cases h
    have k0 := hr 0 (by omega)
    have k1 := hr 1 (by omega)
    have eo := or_join32' (f 1) (f 0) t2 t3 t0 t1
    obtain ⟨u, eu⟩ : ∃ u, f 1 * 4294967296 + f 0 = u := ⟨_, rfl⟩
    rw [eu] at eo
    have EU := hide eu
    clear wa hr eu
    go_enter Try.func74, Try.ntmps74
    go_wp2
    go_ret
    exact ⟨by rw [unhide ev, unhide EU]; rfl, rfl⟩

/-- The division of words answers for numbers of these sizes. -/
def DivOK (X Y : Int) : Prop := ∀ (n m : Nat) (fa fb : Nat → Int) (va vb : Value) (w : World), Sl w va n fa → Sl w vb m fb → Wd n fa → Wd m fb → Nm n fa → Nm m fb → n ≤ 1000 → m ≤ 1000 → val fa n = X → val fb m = Y →
  Calls Try.prog 67 #[va, vb] w fun e w' =>
    ∃ (v1 v2 : Value) (l1 l2 : Nat) (f1 f2 : Nat → Int), e = .returned (.tuple #[v1, v2]) ∧ Sl w' v1 l1 f1 ∧ Wd l1 f1 ∧ Nm l1 f1 ∧ Sl w' v2 l2 f2 ∧ Wd l2 f2 ∧ Nm l2 f2 ∧ val f1 l1 = X / Y ∧ val f2 l2 = X % Y ∧ Below w.heap.size w w'

set_option maxHeartbeats 1000000 in
set_option maxRecDepth 100000 in
theorem div_less (X Y : Int) (h0 : 0 ≤ X) (h : X < Y) : DivOK X Y := by
  intro n m fa fb va vb w ha hb wa wb na nb hn hm hX hY
  have t : ((m : Int) == 0) = false := by
    rcases Nat.eq_zero_or_pos m with h1 | h1
    · subst h1
      have : val fb 0 = 0 := rfl
      omega
    · simp; omega
  have EC := hide (cmpZ_lt (show val fa n < val fb m by omega))
  have HA := hide ha; have HB := hide hb; have WA := hide wa; have WB := hide wb; have NA := hide na; have NB := hide nb
  have HX := hide (show val fa n = X % Y by rw [Int.emod_eq_of_lt h0 h]; exact hX)
  have HX0 := hide (show X / Y = 0 from Int.ediv_eq_zero_of_lt h0 h)
  obtain ⟨ao, capa, rfl, -, -, -⟩ := ha.view
  obtain ⟨bo, capb, rfl, -, -, -⟩ := hb.view
  clear ha hb wa wb na nb hX hY h h0
  go_enter Try.func67, Try.ntmps67
  go_wp2_with fail
  refine (cmp_words _ _ n m fa fb (by omega) (by omega) _ (unhide HA) (unhide HB) (unhide WA) (unhide WB) (unhide NA) (unhide NB)).mono ?_
  rintro e w1 ⟨rfl, hd⟩
  rw [unhide EC]
  have HD := hide (hd.below w.heap.size)
  clear hd
  go_wp2_with fail
  refine (twin_words _ n fa (by omega) _ ((unhide HA).below (unhide HD))).mono ?_
  rintro e w2 ⟨v, rfl, h2, h3⟩
  have F := hide (show Sl w2 v n fa ∧ Below w.heap.size w w2 from ⟨h2, below_two (unhide HD) h3 (unhide HD).size⟩)
  clear h2 h3
  go_wp2_with fail
  go_ret2
  exact ⟨_, _, 0, n, fa, fa, rfl, Or.inl ⟨rfl, rfl⟩, fun i hi => absurd hi (by omega), Or.inl rfl, (unhide F).1, unhide WA, unhide NA, by rw [unhide HX0]; rfl, unhide HX, (unhide F).2⟩

set_option maxHeartbeats 1000000 in
set_option maxRecDepth 100000 in
theorem div_two (X Y : Int) (h0 : 0 < Y) (h : Y ≤ X) (h1 : X < 18446744073709551616) : DivOK X Y := by
  intro n m fa fb va vb w ha hb wa wb na nb hn hm hX hY
  have t : ((m : Int) == 0) = false := by
    rcases Nat.eq_zero_or_pos m with h1 | h1
    · subst h1
      have : val fb 0 = 0 := rfl
      omega
    · simp; omega
  have hn2 : n ≤ 2 := len_le wa na (show val fa n < 18446744073709551616 by omega)
  have hm2 : m ≤ 2 := len_le wb nb (show val fb m < 18446744073709551616 by omega)
  have c0 : 0 ≤ cmpZ (val fa n) (val fb m) := by unfold cmpZ; rw [if_neg (by omega)]; split <;> decide
  have HA := hide ha; have HB := hide hb; have WA := hide wa; have WB := hide wb; have NA := hide na; have NB := hide nb; have HX := hide hX; have HY := hide hY
  obtain ⟨ao, capa, rfl, -, -, -⟩ := ha.view
  obtain ⟨bo, capb, rfl, -, -, -⟩ := hb.view
  have q0 : 0 ≤ X / Y := Int.ediv_nonneg (by omega) (by omega)
  have q1 : X / Y ≤ X := Int.ediv_le_self _ (by omega)
  have r0 : 0 ≤ X % Y := Int.emod_nonneg _ (by omega)
  have r1 : X % Y < Y := Int.emod_lt_of_pos _ h0
  have ty : (Y == 0) = false := by simp; omega
  clear ha hb wa wb na nb hX hY
  go_enter Try.func67, Try.ntmps67
  go_wp2_with fail
  refine (cmp_words _ _ n m fa fb (by omega) (by omega) _ (unhide HA) (unhide HB) (unhide WA) (unhide WB) (unhide NA) (unhide NB)).mono ?_
  rintro e w1 ⟨rfl, hd⟩
  have HD := hide (hd.below w.heap.size)
  clear hd
  go_wp2_with fail
  refine (plain_any _ n fa hn2 _ ((unhide HA).below (unhide HD)) (unhide WA)).mono ?_
  rintro e w2 ⟨rfl, rfl⟩
  rw [unhide HX]
  go_wp2_with fail
  refine (plain_any _ m fb hm2 _ ((unhide HB).below (unhide HD)) (unhide WB)).mono ?_
  rintro e w3 ⟨rfl, rfl⟩
  rw [unhide HY]
  go_wp2_with fail
  have y0 : Y ≠ 0 := by omega
  have td : X.tdiv Y = X / Y := Int.tdiv_eq_ediv_of_nonneg (by omega)
  have tm : X.tmod Y = X % Y := Int.tmod_eq_emod_of_nonneg (by omega)
  have wq : IntKind.u64.wrap (X / Y) = X / Y := by rw [IntKind.wrap_u64]; omega
  refine region_by (S := fun _ => True) [(0, false), (1, false), (2, false), (4, false), (5, false), (6, false), (3, true), (7, true), (8, true), (9, true)] [] (by kernel_rfl) (by kernel_rfl) ?_
  iterate 6
    refine seq_read (v := ?_) rfl (fun _ _ _ h => h) (by rfl) trivial ?_ ?_
    rotate_left 1
    · intro wx hwx
      clear hwx
      go_simp <;> exact rfl
    go_frame
  refine seq_do rfl (fun K hK => ?_)
  go_simp
  refine (words_any (X / Y) q0 (by omega) _).mono ?_
  rintro e w4 ⟨v1, l1, f1, rfl, s1, d1, m1, e1, b1⟩
  have S1 := hide s1; have D1 := hide d1; have M1 := hide m1; have E1 := hide e1; have B1 := hide b1
  refine hK _ _ (fun _ => trivial) ?_
  clear hK K s1 d1 m1 e1 b1
  refine seq_do rfl (fun K hK => ?_)
  go_simp
  refine (words_any (X % Y) r0 (by omega) _).mono ?_
  rintro e w5 ⟨v2, l2, f2, rfl, s2, d2, m2, e2, b2⟩
  have F := hide (show Sl w5 v1 l1 f1 ∧ Wd l1 f1 ∧ Nm l1 f1 ∧ Sl w5 v2 l2 f2 ∧ Wd l2 f2 ∧ Nm l2 f2 ∧ val f1 l1 = X / Y ∧ val f2 l2 = X % Y ∧ Below w.heap.size w w5 from by
    have h4 : Below w.heap.size w w4 := below_two ((unhide HD).drew) (unhide B1) (unhide HD).size
    exact ⟨(unhide S1).below b2, unhide D1, unhide M1, s2, d2, m2, unhide E1, e2, below_two h4 b2 h4.size⟩)
  refine hK _ _ (fun _ => trivial) ?_
  clear hK K s2 d2 m2 e2 b2
  refine seq_do rfl (fun K hK => ?_)
  go_simp
  refine hK _ _ (fun _ => trivial) ?_
  clear hK K
  refine seq_do rfl (fun K hK => ?_)
  go_simp
  refine hK _ _ (fun _ => trivial) ?_
  clear hK K
  refine seq_end ?_
  go_wp2_with fail
  go_ret2
  exact ⟨_, _, l1, l2, f1, f2, rfl, unhide F⟩

theorem div_small (X Y : Int) (h0 : 0 ≤ X) (hY : 0 < Y) (h1 : X < 18446744073709551616) : DivOK X Y := by
  rcases Int.lt_or_le X Y with h | h
  · exact div_less X Y h0 h
  · exact div_two X Y hY h h1

end Go.Proofs.Ytgikknoklnbihaa
