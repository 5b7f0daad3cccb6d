/- Contracts of the reference: Local, rank, Middle. -/
import Derived.Test.YtgikknoklnbihaaClkOK
import Derived.Test.YtgikknoklnbihaaBigQuo
import Derived.Test.YtgikknoklnbihaaBigDiv1
import Derived.Test.YtgikknoklnbihaaBigStop3
import Derived.Test.YtgikknoklnbihaaBigOps
import Derived.Test.YtgikknoklnbihaaBigRef
namespace Go.Proofs.Ytgikknoklnbihaa
open Go.RowKit

/-- A clock's variable, once made. -/
theorem ck_alloc (w : World) (O R : Int) : ∃ w1, w1 = w.alloc (.cells #[.int .i64 O, .int .i64 R] 23) ∧ w1.cell? ⟨w.heap.size, 0, none⟩ = some (.int .i64 O) ∧ w1.cell? ⟨w.heap.size, 1, none⟩ = some (.int .i64 R) ∧ Below w.heap.size w w1 := by
  have h : (w.alloc (.cells #[.int .i64 O, .int .i64 R] 23)).heap[w.heap.size]? = some (.cells #[.int .i64 O, .int .i64 R] 23 (0, 0)) := heap_alloc_new _ _
  exact ⟨_, rfl, by unfold World.cell?; rw [h]; rfl, by unfold World.cell?; rw [h]; rfl, al_below w _⟩

set_option maxHeartbeats 1000000 in
theorem refLocal_bad (O R t : Int) (w : World) (hb : lcBad O R t) :
    Calls Try.prog 10 #[ckV O R, .int .i64 t] w fun e w' => e = .returned (.tuple #[.int .i64 0, .int .i64 3]) ∧ Below w.heap.size w w' := by
  obtain ⟨w1, e1, c0, c1, k1⟩ := ck_alloc w O R
  have E1 := hide e1; have K1 := hide k1; have HB := hide hb
  clear e1 k1 hb
  unfold ckV
  by_cases h0 : O < -1073741824
  · go_enter Try.func10, Try.ntmps10
    go_wp2_with fail
    rw [← unhide E1]
    go_wp2_with fail
    go_ret2
    exact ⟨rfl, unhide K1⟩
  · skip
    by_cases h1 : 1073741824 < O
    · go_enter Try.func10, Try.ntmps10
      go_wp2_with fail
      rw [← unhide E1]
      go_wp2_with fail
      go_ret2
      exact ⟨rfl, unhide K1⟩
    · skip
      by_cases h2 : R < -500
      · go_enter Try.func10, Try.ntmps10
        go_wp2_with fail
        rw [← unhide E1]
        go_wp2_with fail
        go_ret2
        exact ⟨rfl, unhide K1⟩
      · skip
        by_cases h3 : 500 < R
        · go_enter Try.func10, Try.ntmps10
          go_wp2_with fail
          rw [← unhide E1]
          go_wp2_with fail
          go_ret2
          exact ⟨rfl, unhide K1⟩
        · skip
          by_cases h4 : t < 0
          · go_enter Try.func10, Try.ntmps10
            go_wp2_with fail
            rw [← unhide E1]
            go_wp2_with fail
            go_ret2
            exact ⟨rfl, unhide K1⟩
          · skip
            by_cases h5 : 1099511627776 < t
            · go_enter Try.func10, Try.ntmps10
              go_wp2_with fail
              rw [← unhide E1]
              go_wp2_with fail
              go_ret2
              exact ⟨rfl, unhide K1⟩
            · exact absurd (unhide HB) (by unfold lcBad; omega)

set_option maxHeartbeats 2000000 in
theorem refLocal_good (O R t : Int) (w : World) (hb : ¬ lcBad O R t) :
    Calls Try.prog 10 #[ckV O R, .int .i64 t] w fun e w' => e = .returned (.tuple #[.int .i64 (t + O + t * R / 1000000), .int .i64 0]) ∧ Below w.heap.size w w' := by
  have hb' := hb
  unfold lcBad at hb'
  have h0 : ¬ O < -1073741824 := by omega
  have h1 : ¬ 1073741824 < O := by omega
  have h2 : ¬ R < -500 := by omega
  have h3 : ¬ 500 < R := by omega
  have h4 : ¬ t < 0 := by omega
  have h5 : ¬ 1099511627776 < t := by omega
  have p1 : t * R ≤ t * 500 := Int.mul_le_mul_of_nonneg_left (by omega) (by omega)
  have p2 : t * (-500) ≤ t * R := Int.mul_le_mul_of_nonneg_left (by omega) (by omega)
  obtain ⟨q, eq⟩ : ∃ q, t * R = q := ⟨_, rfl⟩
  rw [eq] at p1 p2
  have wq : IntKind.i64.wrap (t * R) = q := by rw [eq, IntKind.wrap_i64]; omega
  obtain ⟨w1, e1, c0, c1, k1⟩ := ck_alloc w O R
  have RQ := hide (show R64 q by unfold R64; omega)
  have HD := hide (show DivOK (absZ q) (absZ 1000000) from div_small _ _ (by unfold absZ; split <;> omega) (by decide) (by unfold absZ; split <;> omega))
  have E1 := hide e1; have K1 := hide k1; have C0 := hide c0; have EQ := hide eq
  clear e1 k1 hb hb' eq
  unfold ckV
  go_enter Try.func10, Try.ntmps10
  go_wp2_with fail
  rw [← unhide E1]
  go_wp2_with fail
  refine (whole_any q (unhide RQ) _).mono ?_
  rintro e w2 ⟨b2, rfl, _, n2, k2⟩
  have N2 := hide n2; have K2 := hide (show Below w.heap.size w w2 from (unhide K1).trans (k2.mono (unhide K1).size)); have C2 := hide (at_below (unhide C0) k2)
  clear n2 k2 c0 c1 C0
  go_wp2_with fail
  refine (whole_any 1000000 (by unfold R64; omega) _).mono ?_
  rintro e w3 ⟨b3, rfl, _, n3, k3⟩
  have N3 := hide n3; have M3 := hide ((unhide N2).below k3); have K3 := hide (show Below w.heap.size w w3 from (unhide K2).trans (k3.mono (unhide K2).size)); have C3 := hide (at_below (unhide C2) k3)
  clear n3 k3 C2 N2
  go_wp2_with fail
  refine (down_any b2 b3 q 1000000 _ (unhide M3) (unhide N3) (bd64 (unhide RQ)) (bd64 (by unfold R64; omega)) (by decide) (unhide HD)).mono ?_
  rintro e w4 ⟨b4, rfl, n4, k4⟩
  have c4 := at_below (unhide C3) k4
  have N4 := hide n4; have K4 := hide (show Below w.heap.size w w4 from (unhide K3).trans (k4.mono (unhide K3).size))
  obtain ⟨d, ed⟩ : ∃ d, q / 1000000 = d := ⟨_, rfl⟩
  rw [ed] at N4
  have d1 : -600000000 ≤ d := by omega
  have d2 : d ≤ 600000000 := by omega
  have ED := hide ed
  have hS : w4.drew.cell? ⟨w.heap.size, 0, none⟩ = some (.int .i64 O) := c4
  clear n4 k4 C3 M3 N3 ed c4 p1 p2 wq
  go_wp2_with fail
  refine region_by (S := fun u => u.cell? ⟨w.heap.size, 0, none⟩ = some (.int .i64 O)) [(0, false), (1, false), (2, false), (3, false), (4, false), (5, true), (6, false), (7, true), (8, true)] [] (by kernel_rfl) (by kernel_rfl) ?_
  iterate 5
    refine seq_read (v := ?_) rfl (fun _ _ _ h => h) (by rfl) hS ?_ ?_
    rotate_left 1
    · intro wx hwx
      go_simp <;> exact rfl
    go_frame
  refine seq_do rfl (fun K hK => ?_)
  go_simp
  refine (int64_any b4 d _ ((unhide N4).below (below_drew (Below.refl _ _))) (by unfold R64; omega)).mono ?_
  rintro e w5 ⟨rfl, rfl⟩
  refine hK _ _ (fun _ => hS) ?_
  clear hK K
  iterate 1
    refine seq_read (v := ?_) rfl (fun _ _ _ h => h) (by rfl) hS ?_ ?_
    rotate_left 1
    · intro wx hwx
      go_simp <;> exact rfl
    go_frame
  refine seq_do rfl (fun K hK => ?_)
  go_simp
  refine hK _ _ (fun _ => hS) ?_
  clear hK K
  refine seq_do rfl (fun K hK => ?_)
  go_simp
  refine hK _ _ (fun _ => hS) ?_
  clear hK K
  refine seq_end ?_
  go_wp2_with fail
  go_ret2
  refine ⟨?_, below_drew (unhide K4)⟩
  have e1 : IntKind.i64.wrap (t + O) = t + O := by rw [IntKind.wrap_i64]; omega
  have e2 : IntKind.i64.wrap (t + O + d) = t + O + d := by rw [IntKind.wrap_i64]; omega
  rw [unhide EQ, unhide ED]
  show Ending.returned (.tuple #[.int .i64 (IntKind.i64.wrap (IntKind.i64.wrap (t + O) + d)), .int .i64 0]) = _
  rw [e1, e2]

theorem refLocal_ok : LcOK 10 := by
  intro O R t w _ _ _
  by_cases h : lcBad O R t
  · refine (refLocal_bad O R t w h).mono ?_
    rintro e w' ⟨rfl, k⟩
    exact ⟨by unfold lcV lcE; rw [if_pos h, if_pos h], k⟩
  · refine (refLocal_good O R t w h).mono ?_
    rintro e w' ⟨rfl, k⟩
    exact ⟨by unfold lcV lcE; rw [if_neg h, if_neg h], k⟩

theorem cl_succ (f : Nat → Int) (n : Nat) (v : Int) : cl f (n + 1) v = cl f n v + if f n < v then 1 else 0 := by
  show cn _ n + (if decide (f n < v) = true then 1 else 0) = _
  by_cases h : f n < v
  · rw [if_pos (decide_eq_true h), if_pos h]; rfl
  · rw [if_neg (by rw [decide_eq_false h]; decide), if_neg h]; rfl
theorem ce_succ (f : Nat → Int) (n : Nat) (v : Int) : ce f (n + 1) v = ce f n v + if f n = v then 1 else 0 := by
  show cn _ n + (if decide (f n = v) = true then 1 else 0) = _
  by_cases h : f n = v
  · rw [if_pos (decide_eq_true h), if_pos h]; rfl
  · rw [if_neg (by rw [decide_eq_false h]; decide), if_neg h]; rfl

set_option maxHeartbeats 2000000 in
theorem rank_any (ao : Option Addr) (n cap k : Nat) (f : Nat → Int) (w : World) (hn : n ≤ 64) (hk : k < n) (hr : Rd w ao n (iF f)) :
    Calls Try.prog 25 #[.slice ao n cap, .int .i64 (k : Int)] w fun e w' => ∃ v, IsRk f n k v ∧ e = .returned (.int .i64 v) ∧ w' = w := by
  obtain ⟨b, o, rfl, hc⟩ := hr (by omega)
  have HC := hide hc
  clear hc hr
  go_enter Try.func25, Try.ntmps25
  go_wp2_with fail
  go_loopw [6, 7, 8, 10, 13] (fun _ _ _ _ is wr => w = wr ∧ ∃ i : Nat, is = .int .i64 i ∧ i ≤ n ∧ ∀ j, j < i → ¬ IsRk f n k (f j)) (fun _ _ _ _ is _ => n - (intOf is).toNat)
  case atStart => exact ⟨rfl, 0, rfl, Nat.zero_le _, fun j hj => absurd hj (by omega)⟩
  case round =>
    obtain ⟨rfl, i, rfl, hi, hno⟩ := hrel
    have NO := hide hno
    clear hno
    by_cases hin : i < n
    · have ci : w.cell? ⟨b, o + i, none⟩ = some (.int .i64 (f i)) := unhide HC i hin
      obtain ⟨v, ev⟩ : ∃ v, f i = v := ⟨_, rfl⟩
      rw [ev] at ci
      have EV := hide ev
      clear ev
      go_wp2_with fail
      clear ci
      go_loopw [7, 8, 10, 19] (fun ls ss _ js wr => w = wr ∧ ∃ j : Nat, js = .int .i64 j ∧ j ≤ n ∧ ls = .int .i64 (cl f j v : Nat) ∧ ss = .int .i64 (ce f j v : Nat)) (fun _ _ _ js _ => n - (intOf js).toNat)
      case atStart => exact ⟨rfl, 0, rfl, Nat.zero_le _, rfl, rfl⟩
      case round =>
        obtain ⟨rfl, j, rfl, hj, rfl, rfl⟩ := hrel
        have b1 : cl f j v ≤ j := cn_le _ _
        have b2 : ce f j v ≤ j := cn_le _ _
        by_cases hjn : j < n
        · have cj : w.cell? ⟨b, o + j, none⟩ = some (.int .i64 (f j)) := unhide HC j hjn
          have S1 := hide (cl_succ f j v); have S2 := hide (ce_succ f j v)
          obtain ⟨p, ep⟩ : ∃ p, cl f j v = p := ⟨_, rfl⟩
          obtain ⟨q, eq⟩ : ∃ q, ce f j v = q := ⟨_, rfl⟩
          obtain ⟨u, eu⟩ : ∃ u, f j = u := ⟨_, rfl⟩
          rw [ep] at b1 S1 ⊢
          rw [eq] at b2 S2 ⊢
          rw [eu] at cj S1 S2
          clear ep eq eu
          by_cases hl : u < v
          · have t1 : (u == v) = false := by simp; omega
            have T1 := hide (show (cl f (j + 1) v : Nat) = p + 1 by rw [unhide S1, if_pos hl]); have T2 := hide (show ce f (j + 1) v = q by rw [unhide S2, if_neg (by omega)]; rfl)
            go_wp2_with fail
            go_roundw
            case rel => exact ⟨trivial, j + 1, by go_num, by omega, by rw [unhide T1]; go_num, by rw [unhide T2]⟩
            case measure => simp [intOf] <;> omega
          · by_cases he : u = v
            · subst he
              have t1 : (u == u) = true := by simp
              have T1 := hide (show cl f (j + 1) u = p by rw [unhide S1, if_neg hl]; rfl); have T2 := hide (show ce f (j + 1) u = q + 1 by rw [unhide S2, if_pos rfl])
              go_wp2_with fail
              go_roundw
              case rel => exact ⟨trivial, j + 1, by go_num, by omega, by rw [unhide T1], by rw [unhide T2]; go_num⟩
              case measure => simp [intOf] <;> omega
            · have t1 : (u == v) = false := by simp [he]
              have T1 := hide (show cl f (j + 1) v = p by rw [unhide S1, if_neg hl]; rfl); have T2 := hide (show ce f (j + 1) v = q by rw [unhide S2, if_neg he]; rfl)
              go_wp2_with fail
              go_roundw
              case rel => exact ⟨trivial, j + 1, by go_num, by omega, by rw [unhide T1], by rw [unhide T2]⟩
              case measure => simp [intOf] <;> omega
        · have e9 : j = n := by omega
          subst e9
          have RV := hide (show IsRk f j k v ↔ cl f j v ≤ k ∧ k < cl f j v + ce f j v from Iff.rfl)
          obtain ⟨p, ep⟩ : ∃ p, cl f j v = p := ⟨_, rfl⟩
          obtain ⟨q, eq⟩ : ∃ q, ce f j v = q := ⟨_, rfl⟩
          rw [ep] at b1 RV ⊢
          rw [eq] at b2 RV ⊢
          clear ep eq
          by_cases h1 : p ≤ k
          · by_cases h2 : k < p + q
            · go_wp2_with fail
              go_ret
              exact ⟨v, (unhide RV).2 ⟨h1, h2⟩, rfl, rfl⟩
            · have NV := hide (show ¬ IsRk f j k v from fun h => h2 ((unhide RV).1 h).2)
              go_wp2_with fail
              go_roundw
              case rel => exact ⟨trivial, i + 1, by go_num, by omega, fun t ht => by
                by_cases e : t = i
                · subst e; rw [unhide EV]; exact unhide NV
                · exact unhide NO t (by omega)⟩
              case measure => simp [intOf] <;> omega
          · have NV := hide (show ¬ IsRk f j k v from fun h => h1 ((unhide RV).1 h).1)
            go_wp2_with fail
            go_roundw
            case rel => exact ⟨trivial, i + 1, by go_num, by omega, fun t ht => by
              by_cases e : t = i
              · subst e; rw [unhide EV]; exact unhide NV
              · exact unhide NO t (by omega)⟩
            case measure => simp [intOf] <;> omega
    · have e9 : i = n := by omega
      subst e9
      obtain ⟨t, ht, hr⟩ := rk_ex f i k hk
      exact absurd hr (unhide NO t ht)

end Go.Proofs.Ytgikknoklnbihaa
