/- Contracts of package member: Good. -/
import Derived.Test.YtngmeaaglogieaaNear50
namespace Go.Proofs.Ytngmeaaglogieaa
open Go.RowKit

theorem run_indexT4 (f : Nat → Bool) {i : Nat} (hi : i < 4) (w : World) : (Instr.index 27 (.agg #[.bool (f 0), .bool (f 1), .bool (f 2), .bool (f 3)]) (.int .i64 (i : Int))).run Try.prog w = .ok (.bool (f i)) w := by
  have : i = 0 ∨ i = 1 ∨ i = 2 ∨ i = 3 := by omega
  rcases this with rfl | rfl | rfl | rfl <;> simp [Instr.index, go_sem]
/-- Are the counts of one node within their bounds? -/
def gcN (b : Bool) (m t : Int) : Bool := if b then decide (0 ≤ m) && decide (m ≤ 2) && decide (t = 0) else decide (m = 0) && decide (0 ≤ t) && decide (t ≤ 2)
theorem gd_gc (r : Rl) (i : Nat) : gd r i = gcN (r.I i) (r.M i) (r.J i) := rfl

set_option maxHeartbeats 1000000 in
theorem goodCounts_any (b : Bool) (m t : Int) (w : World) :
    Calls Try.prog 59 #[.bool b, .int .i64 m, .int .i64 t] w fun e w' => e = .returned (.bool (gcN b m t)) ∧ w' = w := by
  cases b with
  | true =>
    have G := hide (show gcN true m t = (decide (0 ≤ m) && decide (m ≤ 2) && decide (t = 0)) from rfl)
    by_cases h1 : 0 ≤ m
    · have d1 : decide (0 ≤ m) = true := decide_eq_true h1
      by_cases h2 : m ≤ 2
      · have d2 : decide (m ≤ 2) = true := decide_eq_true h2
        by_cases h3 : t = 0
        · subst h3
          go_enter Try.func59, Try.ntmps59
          go_wp2_with fail
          go_ret
          exact ⟨by rw [unhide G, d1, d2]; rfl, rfl⟩
        · have d3 : (t == 0) = false := by simp [h3]
          have d4 : decide (t = 0) = false := decide_eq_false h3
          go_enter Try.func59, Try.ntmps59
          go_wp2_with fail
          go_ret
          exact ⟨by rw [unhide G, d1, d2, d4]; rfl, rfl⟩
      · have d2 : decide (m ≤ 2) = false := decide_eq_false h2
        go_enter Try.func59, Try.ntmps59
        go_wp2_with fail
        go_ret
        exact ⟨by rw [unhide G, d1, d2]; rfl, rfl⟩
    · have d1 : decide (0 ≤ m) = false := decide_eq_false h1
      go_enter Try.func59, Try.ntmps59
      go_wp2_with fail
      go_ret
      exact ⟨by rw [unhide G, d1]; rfl, rfl⟩
  | false =>
    have G := hide (show gcN false m t = (decide (m = 0) && decide (0 ≤ t) && decide (t ≤ 2)) from rfl)
    by_cases h1 : 0 ≤ t
    · have d1 : decide (0 ≤ t) = true := decide_eq_true h1
      by_cases h2 : t < 3
      · have d2 : decide (t < 3) = true := decide_eq_true h2
        have d5 := hide (show decide (t ≤ 2) = true from decide_eq_true (by omega))
        by_cases h3 : m = 0
        · subst h3
          go_enter Try.func59, Try.ntmps59
          go_wp2_with fail
          go_ret
          exact ⟨by rw [unhide G, d1, unhide d5]; rfl, rfl⟩
        · have d3 : (m == 0) = false := by simp [h3]
          have d4 : decide (m = 0) = false := decide_eq_false h3
          go_enter Try.func59, Try.ntmps59
          go_wp2_with fail
          go_ret
          exact ⟨by rw [unhide G, d4]; rfl, rfl⟩
      · have d2 : decide (t < 3) = false := decide_eq_false h2
        have d5 := hide (show decide (t ≤ 2) = false from decide_eq_false (by omega))
        go_enter Try.func59, Try.ntmps59
        go_wp2_with fail
        go_ret
        exact ⟨by rw [unhide G, unhide d5, Bool.and_false]; rfl, rfl⟩
    · have d1 : decide (0 ≤ t) = false := decide_eq_false h1
      go_enter Try.func59, Try.ntmps59
      go_wp2_with fail
      go_ret
      exact ⟨by rw [unhide G, d1, Bool.and_false]; rfl, rfl⟩

theorem RAt.drew {w : World} {b : Nat} {r : Rl} (h : RAt w b r) : RAt w.drew b r := h

set_option maxHeartbeats 2000000 in
theorem memberGood_ok : GrOK 48 := by
  intro r w _
  obtain ⟨w1, e1, m1, k1, z1⟩ := r_alloc w r
  have p0 := m1.inn (i := 0) (by omega)
  have p1 := m1.inn (i := 1) (by omega)
  have p2 := m1.inn (i := 2) (by omega)
  have p3 := m1.inn (i := 3) (by omega)
  rw [e1] at p0 p1 p2 p3
  have E1 := hide e1; have M1 := hide m1; have K1 := hide k1
  clear e1 m1 k1 z1
  unfold rollV
  go_enter Try.func48, Try.ntmps48
  go_wp2_with fail
  rw [← unhide E1]
  clear p0 p1 p2 p3
  go_loopw [7] (fun is wr => ∃ i : Nat, is = .int .i64 i ∧ i ≤ 4 ∧ (∀ j, j < i → gd r j = true) ∧ RAt wr w.heap.size r ∧ Below w.heap.size w wr) (fun is _ => 4 - (intOf is).toNat)
  case atStart => exact ⟨0, rfl, by omega, fun j h => absurd h (by omega), unhide M1, unhide K1⟩
  case round =>
    obtain ⟨i, rfl, hi, hg, hm, hk⟩ := hrel
    rename World => wr
    have HG := hide hg; have HK := hide hk
    clear hg hk M1 K1
    by_cases hin : i < 4
    · have hin' : (i : Int) < 4 := by omega
      have NX := hide (fun h : gd r i = true => show ∀ j, j < i + 1 → gd r j = true from fun j hj => by
        by_cases e : j = i
        · rw [e]; exact h
        · exact unhide HG j (by omega))
      have at_ := run_indexT4 r.I hin
      have GG := hide (gd_gc r i)
      have hS : (fun u => RAt u w.heap.size r) wr.drew := hm.drew
      have HM := hide hm
      clear hm
      go_wp2_with fail
      refine region_by (S := fun u => RAt u w.heap.size r) [(0, false), (1, false), (2, false), (3, false), (4, false), (5, false), (6, false), (7, false), (8, false), (9, true), (10, true)] [] (by kernel_rfl) (by kernel_rfl) ?_
      iterate 9
        refine seq_read (v := ?_) rfl (fun _ _ _ h => h) (by rfl) hS ?_ ?_
        rotate_left 1
        · intro wx hwx
          have cm := RAt.mis hwx hin; have cj := RAt.joi hwx hin
          clear hwx
          go_simp <;> exact rfl
        go_frame
      refine seq_do rfl (fun K hK => ?_)
      go_simp
      refine (goodCounts_any (r.I i) (r.M i) (r.J i) _).mono ?_
      rintro e w2 ⟨rfl, rfl⟩
      refine hK _ _ (fun _ => hS) ?_
      clear hK K
      rw [← unhide GG]
      refine seq_do rfl (fun K hK => ?_)
      go_simp
      refine hK _ _ (fun _ => hS) ?_
      clear hK K
      refine seq_end ?_
      have M2 := hide ((unhide HM).drew); have K2 := hide (below_drew (unhide HK))
      clear hS HM HK at_
      cases hb : gd r i with
      | true =>
        have Y := hide (unhide NX hb)
        go_wp2_with fail
        go_roundw
        case rel => exact ⟨i + 1, by go_num, by omega, unhide Y, unhide M2, unhide K2⟩
        case measure => simp [intOf] <;> omega
      | false =>
        have N := hide (gdA_no hin hb)
        go_wp2_with fail
        go_ret
        exact ⟨by rw [unhide N]; rfl, unhide K2⟩
    · have e9 : i = 4 := by omega
      subst e9
      rw [show ((4 : Nat) : Int) = 4 from rfl]
      have N := hide (gdA_iff.2 (unhide HG))
      clear hm
      go_wp2_with fail
      go_ret
      exact ⟨by rw [unhide N]; rfl, unhide HK⟩

end Go.Proofs.Ytngmeaaglogieaa
