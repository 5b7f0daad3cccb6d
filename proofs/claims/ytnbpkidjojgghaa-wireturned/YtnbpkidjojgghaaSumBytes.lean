/- Contracts: bytes and sums of the statements' packages. -/
import Derived.Test.YtnbpkidjojgghaaNear7
import Derived.Lib.SmallJoins
namespace Go.Proofs.Ytnbpkidjojgghaa
open Go.RowKit

theorem bytesK_any (ao : Option Addr) (len cap : Nat) (f : Nat → Value) (w : World) (hl : len ≤ 140737488355328) (h1 : ∀ i, (f i).oneCell' = true) (hr : Sr w ao len cap f) :
    Calls Try.prog 19 #[.slice ao len cap] w fun e w' => ∃ v, e = .returned v ∧ w'.ownsRow w.heap.size 5 1 v len (rowV f len) ∧ Below w.heap.size w w' := by
  go_enter Try.func19, Try.ntmps19
  go_wp2_with (at_builtin; refine wpList_join _ rfl _ _ rfl w.heap.size (Nat.le_refl _) (.slice none 0 0) 0 [] rfl (World.ownsRow_nil _ _ _ _) ao len cap f rfl hr (fun i _ => h1 i) (by omega) ?_)
  intro v' w' h2 k2
  try rw [Nat.zero_add] at h2
  try rw [List.nil_append] at h2
  go_wp2_with fail
  go_ret
  exact ⟨_, rfl, h2, k2⟩

theorem bytesL_any (ao : Option Addr) (len cap : Nat) (f : Nat → Value) (w : World) (hl : len ≤ 140737488355328) (h1 : ∀ i, (f i).oneCell' = true) (hr : Sr w ao len cap f) :
    Calls Try.prog 13 #[.slice ao len cap] w fun e w' => ∃ v, e = .returned v ∧ w'.ownsRow w.heap.size 5 1 v len (rowV f len) ∧ Below w.heap.size w w' := by
  go_enter Try.func13, Try.ntmps13
  go_wp2_with (at_builtin; refine wpList_join _ rfl _ _ rfl w.heap.size (Nat.le_refl _) (.slice none 0 0) 0 [] rfl (World.ownsRow_nil _ _ _ _) ao len cap f rfl hr (fun i _ => h1 i) (by omega) ?_)
  intro v' w' h2 k2
  try rw [Nat.zero_add] at h2
  try rw [List.nil_append] at h2
  go_wp2_with fail
  go_ret
  exact ⟨_, rfl, h2, k2⟩

/-- The nine digits. -/
def digF (i : Nat) : Nat := if i < 9 then 49 + i else 0
theorem digF_lt (i : Nat) : digF i < 256 := by unfold digF; split <;> omega
theorem digits : moreN 0 digF 9 = 3421780262 := by decide +kernel

/-- The nine digits in memory. -/
def digA : Array Value := #[.int .u8 49, .int .u8 50, .int .u8 51, .int .u8 52, .int .u8 53, .int .u8 54, .int .u8 55, .int .u8 56, .int .u8 57]
theorem digA_rd (w : World) : Rd (w.alloc (.cells digA 5 (9, 9 + 1))) (some ⟨w.heap.size, 0, none⟩) 9 (bF digF) := by
  refine fun _ => ⟨_, _, rfl, fun i hi => ?_⟩
  rw [Nat.zero_add, cell_of_row _ w.heap.size i digA 5 (9, 9 + 1) (heap_alloc_new _ _)]
  have : i = 0 ∨ i = 1 ∨ i = 2 ∨ i = 3 ∨ i = 4 ∨ i = 5 ∨ i = 6 ∨ i = 7 ∨ i = 8 := by omega
  rcases this with rfl | rfl | rfl | rfl | rfl | rfl | rfl | rfl | rfl <;> rfl

set_option maxHeartbeats 1000000 in
theorem sums_any (w : World) : Calls Try.prog 26 #[] w fun e w' => e = .returned (.bool true) ∧ Below w.heap.size w w' := by
  have cv := Lib.run_convert_bytes_const (P := Try.prog) w 25 5 digA 9 9 Try.underlying25 Try.underlying5
  have HV := hide (digA_rd w)
  have K0 := hide (al_below w (.cells digA 5 (9, 9 + 1)))
  have Z0 := hide (al_size w (.cells digA 5 (9, 9 + 1)))
  unfold digA at cv HV K0 Z0
  go_enter Try.func26, Try.ntmps26
  go_wp2_with fail
  refine (csum_any _ 9 9 digF _ digF_lt (by omega) (unhide HV)).mono ?_
  rintro e w1 ⟨rfl, k1⟩
  rw [digits]
  have K1 := hide ((unhide K0).trans (k1.mono (unhide K0).size))
  clear k1
  go_wp2_with fail
  go_ret
  exact ⟨rfl, unhide K1⟩

end Go.Proofs.Ytnbpkidjojgghaa
