/- Contracts of the reference: BeginRoll, Count, GoodRoll. -/
import Derived.Test.YtbgdjldmplkecaaMemOK
namespace Go.Proofs.Ytbgdjldmplkecaa
open Go.RowKit

theorem refBegin_ok : BgOK 9 := by
  intro w
  obtain ⟨w1, e1, m1, k1, z1⟩ := r_alloc w zeroR
  have E1 := hide e1; have M1 := hide m1; have K1 := hide k1
  clear e1 m1 k1 z1
  go_enter Try.func9, Try.ntmps9
  unfold zeroR at E1
  dsimp only at E1
  go_wp2_with (refine wpList_storeRl _ rfl (.tmp 0) (.tmp 2) rfl rfl (r := beginR) rfl (by rw [← unhide E1]; exact unhide M1) rfl ?_)
  intro w5 m5 k5
  rw [← unhide E1] at k5
  have K5 := hide (below_of_kept (unhide K1) k5 (Nat.le_refl _) (unhide K1).size)
  clear k5
  go_wp2_with fail
  have p0 := m5.inn (i := 0) (by omega)
  have p1 := m5.inn (i := 1) (by omega)
  have p2 := m5.inn (i := 2) (by omega)
  have p3 := m5.inn (i := 3) (by omega)
  have p4 := m5.mis (i := 0) (by omega)
  have p5 := m5.mis (i := 1) (by omega)
  have p6 := m5.mis (i := 2) (by omega)
  have p7 := m5.mis (i := 3) (by omega)
  have p8 := m5.joi (i := 0) (by omega)
  have p9 := m5.joi (i := 1) (by omega)
  have p10 := m5.joi (i := 2) (by omega)
  have p11 := m5.joi (i := 3) (by omega)
  refine bodyPost_ret (v := rollV beginR) (by unfold rollV; simp [results, Try.results9, go_sem, p0, p1, p2, p3, p4, p5, p6, p7, p8, p9, p10, p11]) rfl ⟨rfl, unhide K5⟩

theorem refCount_ok : CtOK 11 := by
  intro r w
  obtain ⟨w1, e1, m1, k1, z1⟩ := r_alloc w r
  have E1 := hide e1; have M1 := hide m1; have K1 := hide k1
  clear e1 m1 k1 z1
  unfold rollV
  go_enter Try.func11, Try.ntmps11
  go_wp2_with fail
  rw [← unhide E1]
  go_loopw [3, 4] (fun ns is wr => w1 = wr ∧ ∃ i : Nat, is = .int .i64 i ∧ i ≤ 4 ∧ ns = .int .i64 (cn r.I i : Nat)) (fun _ is _ => 4 - (intOf is).toNat)
  case atStart => exact ⟨rfl, 0, rfl, by omega, rfl⟩
  case round =>
    obtain ⟨rfl, i, rfl, hi, rfl⟩ := hrel
    have hn : cn r.I i ≤ i := cn_le _ _
    by_cases hin : i < 4
    · have hin' : (i : Int) < 4 := by omega
      have ci := (unhide M1).inn hin
      have S := hide (show cn r.I (i + 1) = cn r.I i + if r.I i = true then 1 else 0 from rfl)
      cases hb : r.I i with
      | true =>
        rw [hb] at ci
        have T := hide (show cn r.I (i + 1) = cn r.I i + 1 by rw [unhide S, hb, if_pos rfl])
        go_wp2_with fail
        go_roundw
        case rel => exact ⟨trivial, i + 1, by go_num, by omega, by rw [unhide T]; go_num⟩
        case measure => simp [intOf] <;> omega
      | false =>
        rw [hb] at ci
        have T := hide (show cn r.I (i + 1) = cn r.I i by rw [unhide S, hb, if_neg (by decide)]; rfl)
        go_wp2_with fail
        go_roundw
        case rel => exact ⟨trivial, i + 1, by go_num, by omega, by rw [unhide T]⟩
        case measure => simp [intOf] <;> omega
    · have e9 : i = 4 := by omega
      subst e9
      rw [show ((4 : Nat) : Int) = 4 from rfl]
      go_wp2_with fail
      go_ret
      exact ⟨rfl, unhide K1⟩

set_option maxHeartbeats 2000000 in
theorem refGood_ok : GrOK 13 := by
  intro r w _
  obtain ⟨w1, e1, m1, k1, z1⟩ := r_alloc w r
  have E1 := hide e1; have M1 := hide m1; have K1 := hide k1
  clear e1 m1 k1 z1
  unfold rollV
  go_enter Try.func13, Try.ntmps13
  go_wp2_with fail
  rw [← unhide E1]
  go_loopw [3] (fun is wr => w1 = wr ∧ ∃ i : Nat, is = .int .i64 i ∧ i ≤ 4 ∧ ∀ j, j < i → gd r j = true) (fun is _ => 4 - (intOf is).toNat)
  case atStart => exact ⟨rfl, 0, rfl, by omega, fun j h => absurd h (by omega)⟩
  case round =>
    obtain ⟨rfl, i, rfl, hi, hg⟩ := hrel
    have HG := hide hg
    clear hg
    by_cases hin : i < 4
    · have hin' : (i : Int) < 4 := by omega
      have ci := (unhide M1).inn hin; have cm := (unhide M1).mis hin; have cj := (unhide M1).joi hin
      have NX := hide (fun h : gd r i = true => show ∀ j, j < i + 1 → gd r j = true from fun j hj => by
        by_cases e : j = i
        · rw [e]; exact h
        · exact unhide HG j (by omega))
      cases hb : r.I i with
      | true =>
        have G := hide (gd_in hb)
        rw [hb] at ci
        obtain ⟨m, em⟩ : ∃ m, r.M i = m := ⟨_, rfl⟩
        obtain ⟨t, et⟩ : ∃ t, r.J i = t := ⟨_, rfl⟩
        rw [em] at cm G
        rw [et] at cj G
        clear em et hb
        by_cases h1 : m < 0
        · have N := hide (show gdA r = false from gdA_no hin (by cases e : gd r i with | false => rfl | true => have := (unhide G).1 e; omega))
          have d1 : decide (m < 0) = true := decide_eq_true h1
          go_wp2_with fail
          go_ret
          exact ⟨by rw [unhide N]; rfl, unhide K1⟩
        · have d1 : decide (m < 0) = false := decide_eq_false h1
          by_cases h2 : 2 < m
          · have N := hide (show gdA r = false from gdA_no hin (by cases e : gd r i with | false => rfl | true => have := (unhide G).1 e; omega))
            have d2 : decide (2 < m) = true := decide_eq_true h2
            go_wp2_with fail
            go_ret
            exact ⟨by rw [unhide N]; rfl, unhide K1⟩
          · have d2 : decide (2 < m) = false := decide_eq_false h2
            by_cases h3 : t = 0
            · have Y := hide (unhide NX ((unhide G).2 ⟨by omega, by omega, h3⟩))
              subst h3
              go_wp2_with fail
              go_roundw
              case rel => exact ⟨trivial, i + 1, by go_num, by omega, unhide Y⟩
              case measure => simp [intOf] <;> omega
            · have N := hide (show gdA r = false from gdA_no hin (by cases e : gd r i with | false => rfl | true => have := (unhide G).1 e; omega))
              have d3 : (t != 0) = true := by simp [h3]
              go_wp2_with fail
              go_ret
              exact ⟨by rw [unhide N]; rfl, unhide K1⟩
      | false =>
        have G := hide (gd_out hb)
        rw [hb] at ci
        obtain ⟨m, em⟩ : ∃ m, r.M i = m := ⟨_, rfl⟩
        obtain ⟨t, et⟩ : ∃ t, r.J i = t := ⟨_, rfl⟩
        rw [em] at cm G
        rw [et] at cj G
        clear em et hb
        by_cases h1 : m = 0
        · subst h1
          by_cases h2 : t < 0
          · have N := hide (show gdA r = false from gdA_no hin (by cases e : gd r i with | false => rfl | true => have := (unhide G).1 e; omega))
            have d2 : decide (t < 0) = true := decide_eq_true h2
            go_wp2_with fail
            go_ret
            exact ⟨by rw [unhide N]; rfl, unhide K1⟩
          · have d2 : decide (t < 0) = false := decide_eq_false h2
            by_cases h3 : 3 ≤ t
            · have N := hide (show gdA r = false from gdA_no hin (by cases e : gd r i with | false => rfl | true => have := (unhide G).1 e; omega))
              have d3 : decide (3 ≤ t) = true := decide_eq_true h3
              go_wp2_with fail
              go_ret
              exact ⟨by rw [unhide N]; rfl, unhide K1⟩
            · have Y := hide (unhide NX ((unhide G).2 ⟨rfl, by omega, by omega⟩))
              have d3 : decide (3 ≤ t) = false := decide_eq_false h3
              go_wp2_with fail
              go_roundw
              case rel => exact ⟨trivial, i + 1, by go_num, by omega, unhide Y⟩
              case measure => simp [intOf] <;> omega
        · have N := hide (show gdA r = false from gdA_no hin (by cases e : gd r i with | false => rfl | true => have := (unhide G).1 e; omega))
          have d1 : (m != 0) = true := by simp [h1]
          go_wp2_with fail
          go_ret
          exact ⟨by rw [unhide N]; rfl, unhide K1⟩
    · have e9 : i = 4 := by omega
      subst e9
      rw [show ((4 : Nat) : Int) = 4 from rfl]
      go_wp2_with fail
      go_ret
      exact ⟨by rw [gdA_iff.2 (unhide HG)]; rfl, unhide K1⟩

end Go.Proofs.Ytbgdjldmplkecaa
