/- Contracts: roomyBytes, stayedBytes: bytes with marked room behind them. -/
import Derived.Test.YthjeedlhlkggkabStrByte
import Derived.Test.YthjeedlhlkggkabIntMem
namespace Go.Proofs.Ythjeedlhlkggkab
open Go.RowKit

/-- Bytes and two marks behind them. -/
def rbF (g : Nat → Nat) (l : Nat) (i : Nat) : Nat := if i < l then g i else if i = l then 77 else 78
theorem rbF_low {g : Nat → Nat} {l i : Nat} (h : i < l) : rbF g l i = g i := by unfold rbF; rw [if_pos h]
theorem rbF_lt {g : Nat → Nat} (hg : ∀ i, g i < 256) (l i : Nat) : rbF g l i < 256 := by
  unfold rbF
  split
  · exact hg i
  · split <;> omega
theorem rb_row (g : Nat → Nat) (l : Nat) (u : Nat → Value) (h0 : u 0 = .int .u8 77) (h1 : u 1 = .int .u8 78) : rowV (bF g) l ++ rowV u 2 = rowV (bF (rbF g l)) (l + 2) := by
  rw [rowV_append]
  refine rowV_congr (fun i hi => ?_)
  by_cases c : i < l
  · rw [if_pos c]; unfold bF; rw [rbF_low c]
  · rw [if_neg c]
    have : i = l ∨ i = l + 1 := by omega
    rcases this with rfl | rfl
    · rw [Nat.sub_self, h0]; unfold bF rbF; rw [if_neg (by omega), if_pos rfl]; rfl
    · rw [Nat.add_sub_cancel_left, h1]; unfold bF rbF; rw [if_neg (by omega), if_neg (by omega)]; rfl

set_option maxHeartbeats 1000000 in
theorem roomyB_any (ao : Option Addr) (len cap : Nat) (g : Nat → Nat) (w : World) (hl : len ≤ 140737488351232) (hr : Sr w ao len cap (bF g)) :
    Calls Try.prog 11 #[.slice ao len cap] w fun e w' => ∃ r c, e = .returned (.slice (some ⟨r, 0, none⟩) len c) ∧ w.heap.size ≤ r ∧ Vh 5 w' r (len + 2) c (bF (rbF g len)) ∧ Below w.heap.size w w' := by
  have HR := hide hr
  clear hr
  go_enter Try.func11, Try.ntmps11
  go_wp2_with (at_make; refine wpList_makeC _ rfl _ _ rfl 0 (len + 9) rfl (by go_num) (by omega) (by omega) ?_)
  intro w1 z1 v1 k1
  have O1 := hide (v1.owns (base := w.heap.size) (Nat.le_refl _)); have K1 := hide k1; have Z1 := hide k1.size
  clear v1 k1 z1
  go_wp2_with (at_builtin; refine wpList_join _ rfl _ _ rfl w.heap.size (unhide Z1) _ 0 (rowV (bF (fun _ => 0)) 0) rfl (unhide O1) ao len cap (bF g) rfl ((unhide HR).below (unhide K1)) (fun i _ => bF_one g i) (by omega) ?_)
  intro v2 w2 o2 k2
  have o2' : w2.ownsRow w.heap.size 5 1 v2 len (rowV (bF g) len) := by
    have h := o2
    try rw [Nat.zero_add] at h
    exact h
  have A3 := al_below w2 (.cells #[.int .u8 77, .int .u8 78] 5)
  have V3 := Vh.new w2 5 #[.int .u8 77, .int .u8 78] (fun i => if i = 0 then .int .u8 77 else .int .u8 78) (by show 2 ≤ maxLen; decide) (fun i hi => by
    have : i = 0 ∨ i = 1 := by simp at hi; omega
    rcases this with rfl | rfl <;> rfl)
  have S3 := hide (show Sr (w2.alloc (.cells #[.int .u8 77, .int .u8 78] 5)) (some ⟨w2.heap.size, 0, none⟩) 2 2 (fun i => if i = 0 then .int .u8 77 else .int .u8 78) from Or.inr ⟨_, rfl, fun i hi => by rw [Addr.add_lit, Nat.zero_add]; exact V3.cell hi⟩)
  have k3 : Below w.heap.size w (w2.alloc (.cells #[.int .u8 77, .int .u8 78] 5)) := ((unhide K1).trans k2).trans (A3.mono (Nat.le_trans (unhide Z1) k2.size))
  have O3 := hide (own_kept o2' A3); have K3 := hide k3; have Z3 := hide k3.size
  clear o2 o2' k2 A3 V3 k3 O1 K1 Z1
  go_wp2_with (at_builtin; refine wpList_join _ rfl _ _ rfl w.heap.size (unhide Z3) v2 len (rowV (bF g) len) rfl (unhide O3) (some ⟨w2.heap.size, 0, none⟩) 2 2 (fun i => if i = 0 then .int .u8 77 else .int .u8 78) rfl (unhide S3) (fun i _ => by show Value.oneCell' (if i = 0 then _ else _) = true; split <;> rfl) (by omega) ?_)
  intro v4 w4 o4 k4
  rw [rb_row g len _ rfl rfl] at o4
  obtain ⟨r, c, rfl, hr, v4⟩ := Vh.of_owns (by omega) o4
  have F := hide (And.intro hr (And.intro v4 ((unhide K3).trans k4)))
  have hf := v4.fit
  clear o4 k4 hr v4
  have hc : len ≤ c := by omega
  go_wp2_with fail
  go_ret
  exact ⟨r, c, rfl, (unhide F).1, (unhide F).2.1, (unhide F).2.2⟩

set_option maxHeartbeats 1000000 in
theorem stayedB_any (r c : Nat) (bo : Option Addr) (len cap : Nat) (g : Nat → Nat) (w : World) (hl : len ≤ 140737488351232) (hv : Vh 5 w r (len + 2) c (bF (rbF g len))) (hr : Rd w bo len (bF g)) :
    Calls Try.prog 16 #[.slice (some ⟨r, 0, none⟩) len c, .slice bo len cap] w fun e w' => e = .returned (.bool true) ∧ Below w.heap.size w w' := by
  have hf := hv.fit
  have w2 : IntKind.i64.wrap ((len : Int) + 2) = (len : Int) + 2 := by rw [IntKind.wrap_i64]; omega
  have w1' : IntKind.i64.wrap ((len : Int) + 1) = (len : Int) + 1 := by rw [IntKind.wrap_i64]; omega
  have cv1 := run_convB w (some ⟨r, 0, none⟩) len c _ ((hv.less (show len ≤ len + 2 by omega)).congr (f := bF g) (fun i hi => by unfold bF; rw [rbF_low hi])).rd
  have cv2 := run_convB w bo len cap g hr
  obtain ⟨T, eT⟩ : ∃ T, sB g len = T := ⟨_, rfl⟩
  rw [eT] at cv1 cv2
  have c1 : w.cell? ⟨r, len, none⟩ = some (.int .u8 77) := by have := hv.cell (show len < len + 2 by omega); unfold bF rbF at this; rw [if_neg (by omega), if_pos rfl] at this; exact this
  have c2 : w.cell? ⟨r, len + 1, none⟩ = some (.int .u8 78) := by have := hv.cell (show len + 1 < len + 2 by omega); unfold bF rbF at this; rw [if_neg (by omega), if_neg (by omega)] at this; exact this
  have hc : len + 2 ≤ c := hf
  clear hv hr eT hf
  go_enter Try.func16, Try.ntmps16
  go_wp2_with fail
  go_ret
  exact ⟨rfl, Below.refl _ _⟩

end Go.Proofs.Ythjeedlhlkggkab
