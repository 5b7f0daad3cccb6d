/- Contracts of the reference's whole numbers of any size: sums and differences of numbers. -/
import Derived.Test.YtgikknoklnbihaaBigSub
namespace Go.Proofs.Ytgikknoklnbihaa
open Go.RowKit

set_option maxHeartbeats 400000 in
theorem sum_any (xn yn : Bool) (va vb : Value) (n m : Nat) (fa fb : Nat → Int) (hn : n ≤ 549755813888) (hm : m ≤ 549755813888) (w : World) (ha : Sl w va n fa) (hb : Sl w vb m fb) (wa : Wd n fa) (wb : Wd m fb) (na : Nm n fa) (nb : Nm m fb) :
    Calls Try.prog 37 #[.bool xn, va, .bool yn, vb] w fun e w' =>
      ∃ (s : Bool) (v : Value) (l : Nat) (f : Nat → Int), e = .returned (.tuple #[.bool s, v]) ∧ Sl w' v l f ∧ Wd l f ∧ Nm l f ∧ sgnZ s (val f l) = sgnZ xn (val fa n) + sgnZ yn (val fb m) ∧ Below w.heap.size w w' := by
  have HA := hide ha; have HB := hide hb; have WA := hide wa; have WB := hide wb; have NA := hide na; have NB := hide nb
  obtain ⟨ao, capa, rfl, -, -, -⟩ := ha.view
  obtain ⟨bo, capb, rfl, -, -, -⟩ := hb.view
  clear ha hb wa wb na nb
  by_cases h : xn = yn
  · subst h
    have t : (xn == xn) = true := by simp
    go_enter Try.func37, Try.ntmps37
    go_wp2_with fail
    refine (add_words _ _ n m fa fb hn hm _ (unhide HA) (unhide HB) (unhide WA) (unhide WB)).mono ?_
    rintro e w1 ⟨v, l, f, rfl, h2, h3, h4, h5, h6, h7⟩
    have F := hide (show Sl w1 v l f ∧ Wd l f ∧ Nm l f ∧ sgnZ xn (val f l) = sgnZ xn (val fa n) + sgnZ xn (val fb m) ∧ Below w.heap.size w w1 from ⟨h2, h3, h4, by rw [h5]; cases xn <;> simp [sgnZ]; omega, h7⟩)
    clear h2 h3 h4 h5 h6 h7
    go_wp2_with fail
    go_ret2
    exact ⟨xn, v, l, f, rfl, unhide F⟩
  · have t : (xn == yn) = false := by simpa using h
    have hxy : yn = !xn := by cases xn <;> cases yn <;> simp_all
    have hs : ∀ a b : Int, sgnZ xn a + sgnZ yn b = sgnZ xn (a - b) := by intro a b; rw [hxy]; cases xn <;> simp [sgnZ] <;> omega
    have hs2 : ∀ a b : Int, sgnZ xn a + sgnZ yn b = sgnZ yn (b - a) := by intro a b; rw [hxy]; cases xn <;> simp [sgnZ] <;> omega
    have HS := hide hs; have HS2 := hide hs2
    clear hs hs2 hxy h
    go_enter Try.func37, Try.ntmps37
    go_wp2_with fail
    refine (cmp_words _ _ n m fa fb hn hm _ (unhide HA) (unhide HB) (unhide WA) (unhide WB) (unhide NA) (unhide NB)).mono ?_
    rintro e w1 ⟨rfl, hd⟩
    have HD := hide (hd.below w.heap.size)
    clear hd
    by_cases hc : val fb m ≤ val fa n
    · have c0 : 0 ≤ cmpZ (val fa n) (val fb m) := by unfold cmpZ; rw [if_neg (by omega)]; split <;> decide
      have hlen : Hid (m ≤ n) := by
        rcases Nat.lt_or_ge n m with h | h
        · exact absurd (val_lt_len (unhide WA) (unhide WB) (unhide NB) h) (by omega)
        · exact h
      have HC := hide hc
      clear hc
      go_wp2_with fail
      refine (sub_words _ _ n m fa fb (unhide hlen) hn _ ((unhide HA).below (unhide HD)) ((unhide HB).below (unhide HD)) (unhide WA) (unhide WB) (unhide HC)).mono ?_
      rintro e w2 ⟨v, l, f, rfl, h2, h3, h4, h5, h6, h7⟩
      have F := hide (show Sl w2 v l f ∧ Wd l f ∧ Nm l f ∧ sgnZ xn (val f l) = sgnZ xn (val fa n) + sgnZ yn (val fb m) ∧ Below w.heap.size w w2 from ⟨h2, h3, h4, by rw [h5, unhide HS], (unhide HD).trans (h7.mono (unhide HD).size)⟩)
      clear h2 h3 h4 h5 h6 h7
      go_wp2_with fail
      go_ret2
      exact ⟨xn, v, l, f, rfl, unhide F⟩
    · have c0 : cmpZ (val fa n) (val fb m) < 0 := by unfold cmpZ; rw [if_pos (by omega)]; decide
      have hlen : Hid (n ≤ m) := by
        rcases Nat.lt_or_ge m n with h | h
        · exact absurd (val_lt_len (unhide WB) (unhide WA) (unhide NA) h) (by omega)
        · exact h
      have HC : Hid (val fa n ≤ val fb m) := by show _ ≤ _; omega
      clear hc
      go_wp2_with fail
      refine (sub_words _ _ m n fb fa (unhide hlen) hm _ ((unhide HB).below (unhide HD)) ((unhide HA).below (unhide HD)) (unhide WB) (unhide WA) (unhide HC)).mono ?_
      rintro e w2 ⟨v, l, f, rfl, h2, h3, h4, h5, h6, h7⟩
      have F := hide (show Sl w2 v l f ∧ Wd l f ∧ Nm l f ∧ sgnZ yn (val f l) = sgnZ xn (val fa n) + sgnZ yn (val fb m) ∧ Below w.heap.size w w2 from ⟨h2, h3, h4, by rw [h5, unhide HS2], (unhide HD).trans (h7.mono (unhide HD).size)⟩)
      clear h2 h3 h4 h5 h6 h7
      go_wp2_with fail
      go_ret2
      exact ⟨yn, v, l, f, rfl, unhide F⟩

end Go.Proofs.Ytgikknoklnbihaa
