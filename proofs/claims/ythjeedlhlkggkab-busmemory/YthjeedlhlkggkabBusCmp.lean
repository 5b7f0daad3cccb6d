/- How two parcels compare: cmp.Compare, cmp.Or, byDueAndSerial. -/
import Derived.Test.YthjeedlhlkggkabStaMem
import Derived.Deep.LoopGhost
namespace Go.Proofs.Ythjeedlhlkggkab
open Go.RowKit

def cmpI (x y : Int) : Int := if x < y then -1 else if y < x then 1 else 0
theorem or_cmp (p r : Pc) : (if cmpI p.du r.du ≠ 0 then cmpI p.du r.du else cmpI p.se r.se) = cmpP p r := by
  unfold cmpI cmpP
  by_cases h1 : p.du < r.du
  · rw [if_pos h1, if_pos h1, if_pos (by decide)]
  · rw [if_neg h1, if_neg h1]
    by_cases h2 : r.du < p.du
    · rw [if_pos h2, if_pos h2, if_pos (by decide)]
    · rw [if_neg h2, if_neg h2, if_neg (by decide)]
theorem isNaN_any (x : Int) (w : World) : Calls Try.prog 34 #[.int .i64 x] w fun e w' => e = .returned (.bool false) ∧ w' = w := by
  go_enter Try.func34, Try.ntmps34
  go_wp2_with fail
  go_ret
  exact ⟨rfl, rfl⟩
set_option maxHeartbeats 1000000 in
theorem compare_any (x y : Int) (w : World) : Calls Try.prog 31 #[.int .i64 x, .int .i64 y] w fun e w' => e = .returned (.int .i64 (cmpI x y)) ∧ w' = w := by
  have C1 := isNaN_any x w
  have C2 := isNaN_any y w
  unfold cmpI
  by_cases h1 : x < y
  · rw [if_pos h1]
    go_enter Try.func31, Try.ntmps31
    go_wp2_with fail
    refine C1.mono ?_
    rintro e w1 ⟨rfl, rfl⟩
    go_wp2_with fail
    refine C2.mono ?_
    rintro e w2 ⟨rfl, rfl⟩
    go_wp2_with fail
    go_ret
    exact ⟨rfl, rfl⟩
  · rw [if_neg h1]
    by_cases h2 : y < x
    · rw [if_pos h2]
      go_enter Try.func31, Try.ntmps31
      go_wp2_with fail
      refine C1.mono ?_
      rintro e w1 ⟨rfl, rfl⟩
      go_wp2_with fail
      refine C2.mono ?_
      rintro e w2 ⟨rfl, rfl⟩
      go_wp2_with fail
      go_ret
      exact ⟨rfl, rfl⟩
    · rw [if_neg h2]
      go_enter Try.func31, Try.ntmps31
      go_wp2_with fail
      refine C1.mono ?_
      rintro e w1 ⟨rfl, rfl⟩
      go_wp2_with fail
      refine C2.mono ?_
      rintro e w2 ⟨rfl, rfl⟩
      go_wp2_with fail
      go_ret
      exact ⟨rfl, rfl⟩
set_option maxHeartbeats 1000000 in
theorem or_any (x y : Int) (b : Nat) (w : World) (c0 : w.cell? ⟨b, 0, none⟩ = some (.int .i64 x)) (c1 : w.cell? ⟨b, 1, none⟩ = some (.int .i64 y)) :
    Calls Try.prog 30 #[.slice (some ⟨b, 0, none⟩) 2 2] w fun e w' => e = .returned (.int .i64 (if x ≠ 0 then x else y)) ∧ Below w.heap.size w w' := by
  by_cases h1 : x = 0
  · subst h1
    rw [if_neg (by decide)]
    by_cases h2 : y = 0
    · subst h2
      go_enter Try.func30, Try.ntmps30
      go_wp2_with fail
      go_loopg [8] 2 (fun k s8 wr => w = wr ∧ ∃ i : Nat, s8 = .int .i64 i ∧ i + k = 2)
      case atStart => exact ⟨rfl, 0, rfl, rfl⟩
      case round =>
        obtain ⟨rfl, i, rfl, hi⟩ := hrel
        have : i = 0 ∨ i = 1 ∨ i = 2 := by omega
        rcases this with rfl | rfl | rfl
        · go_wp2_with fail
          go_roundg 1
          case measure => omega
          case rel => exact ⟨rfl, 1, rfl, rfl⟩
        · go_wp2_with fail
          go_roundg 0
          case measure => omega
          case rel => exact ⟨rfl, 2, rfl, rfl⟩
        · go_wp2_with fail
          go_ret
          exact ⟨rfl, Below.refl _ _⟩
    · have h2b : (y == 0) = false := by simp [h2]
      go_enter Try.func30, Try.ntmps30
      go_wp2_with fail
      go_loopg [8] 2 (fun k s8 wr => w = wr ∧ ∃ i : Nat, s8 = .int .i64 i ∧ i + k = 2 ∧ i ≤ 1)
      case atStart => exact ⟨rfl, 0, rfl, rfl, by omega⟩
      case round =>
        obtain ⟨rfl, i, rfl, hi, hi1⟩ := hrel
        have : i = 0 ∨ i = 1 := by omega
        rcases this with rfl | rfl
        · go_wp2_with fail
          go_roundg 1
          case measure => omega
          case rel => exact ⟨rfl, 1, rfl, rfl, by omega⟩
        · go_wp2_with fail
          go_ret
          exact ⟨rfl, Below.refl _ _⟩
  · rw [if_pos h1]
    have h1b : (x == 0) = false := by simp [h1]
    go_enter Try.func30, Try.ntmps30
    go_wp2_with fail
    go_loopg [8] 2 (fun k s8 wr => w = wr ∧ k = 2 ∧ s8 = .int .i64 0)
    case atStart => exact ⟨rfl, rfl, rfl⟩
    case round =>
      obtain ⟨rfl, rfl, rfl⟩ := hrel
      go_wp2_with fail
      go_ret
      exact ⟨rfl, Below.refl _ _⟩
theorem enter_cmp (x y : Value) (w : World) : (callFunc 31 #[x, y]).run Try.prog w = .ok (.enter 31 #[x, y]) w := by go_simp
theorem enter_or (x : Value) (w : World) : (callFunc 30 #[x]).run Try.prog w = .ok (.enter 30 #[x]) w := by go_simp
/-- A row of two numbers. -/
theorem wp_twoI (w : World) {o : Oper} {a : Act} {K : Act → World → Prop} {Q : Exit → Act → World → Prop} (x y : Operand) (ho : o.op = .buildSlice 63 2 #[(0, x), (1, y)]) {u v : Int} (hx : a.eval x = .int .i64 u) (hy : a.eval y = .int .i64 v)
    (h : ∀ w', w'.cell? ⟨w.heap.size, 0, none⟩ = some (.int .i64 u) → w'.cell? ⟨w.heap.size, 1, none⟩ = some (.int .i64 v) → Below w.heap.size w w' → K (a.put o.dst (.slice (some ⟨w.heap.size, 0, none⟩) 2 2)) w') : WpI Try.prog o a w K Q := by
  have hh := h (w.alloc (.cells #[.int .i64 u, .int .i64 v] 3)) (by simp) (by simp) (al_below _ _)
  have e : (execOp a.eval o).run Try.prog w = .ok (.value (.slice (some ⟨w.heap.size, 0, none⟩) 2 2)) (w.alloc (.cells #[.int .i64 u, .int .i64 v] 3)) := by
    generalize a.eval = f at hx hy
    unfold execOp
    rw [ho]
    simp only [List.map_toArray, List.map_cons, List.map_nil]
    rw [hx, hy]
    go_simp
  refine ⟨?_⟩
  unfold Oper.wp
  rw [e]
  exact hh
theorem pv_pair (w : World) (p r : Pc) (u v : Value) : ∃ w2, w2 = (w.alloc (.cells #[.int .i64 p.fr, .int .i64 p.to, .int .i64 p.du, .int .i64 p.se, u] 32)).alloc (.cells #[.int .i64 r.fr, .int .i64 r.to, .int .i64 r.du, .int .i64 r.se, v] 32) ∧ PvAt w2 w.heap.size p u ∧ PvAt w2 (w.heap.size + 1) r v ∧ Below w.heap.size w w2 := by
  obtain ⟨w1, e1, m1, k1, z1⟩ := pv_alloc w p u
  obtain ⟨w2, e2, m2, k2, z2⟩ := pv_alloc w1 r v
  refine ⟨w2, by rw [e2, e1], m1.below k2, by rw [← z1]; exact m2, k1.trans (k2.mono (by omega))⟩
set_option maxHeartbeats 1000000 in
theorem busCmp_any (p r : Pc) (pa ra : Option Addr) (pn pc rn rc : Nat) (w : World) :
    Calls Try.prog 26 #[pcV p (.slice pa pn pc), pcV r (.slice ra rn rc)] w fun e w' => e = .returned (.int .i64 (cmpP p r)) ∧ Below w.heap.size w w' := by
  obtain ⟨w2, e2, m1, m2, k2⟩ := pv_pair w p r (.slice pa pn pc) (.slice ra rn rc)
  have E2 := hide e2; have M1 := hide m1; have M2 := hide m2; have K2 := hide k2
  clear e2 m1 m2 k2
  unfold pcV
  go_enter Try.func26, Try.ntmps26
  go_wp2_with fail
  rw [← unhide E2]
  refine wp_leaves (fun a0 a' w' => Below w2.heap.size w2 w' ∧ a' = (((((((((((((a0.put (some 5) (.pointer (some ⟨w.heap.size, 0 + 2, none⟩))).put (some 6) (.int .i64 p.du)).put (some 7) (.pointer (some ⟨(w.heap.size + 1), 0 + 2, none⟩))).put (some 8) (.int .i64 r.du)).put (some 10) (.pointer (some ⟨w.heap.size, 0 + 3, none⟩))).put (some 11) (.int .i64 p.se)).put (some 12) (.pointer (some ⟨(w.heap.size + 1), 0 + 3, none⟩))).put (some 13) (.int .i64 r.se)).put (some 9) (.int .i64 (cmpI p.du r.du))).put (some 14) (.int .i64 (cmpI p.se r.se))).put (some 15) (.slice (some ⟨w2.heap.size, 0, none⟩) 2 2)).put (some 16) (.int .i64 (cmpP p r))).put (some 4) (.int .i64 (cmpP p r)))) ?reg ?rest
  case reg =>
    intro A eA
    have b2 : A.eval (.tmp 2) = .pointer (some ⟨w.heap.size, 0, none⟩) := by rw [eA]; rfl
    have b3 : A.eval (.tmp 3) = .pointer (some ⟨w.heap.size + 1, 0, none⟩) := by rw [eA]; rfl
    have hs : 17 ≤ A.tmps.size := by rw [eA]; exact of_decide_eq_true rfl
    clear eA
    have hS : PvAt w2.drew w.heap.size p (.slice pa pn pc) ∧ PvAt w2.drew (w.heap.size + 1) r (.slice ra rn rc) := ⟨unhide M1, unhide M2⟩
    refine region_I (S := fun W => PvAt W w.heap.size p (.slice pa pn pc) ∧ PvAt W (w.heap.size + 1) r (.slice ra rn rc)) (.rd 0 (.rd 1 (.rd 2 (.rd 3 (.rd 5 (.rd 6 (.rd 7 (.rd 8 (.go 4 (.go 9 (.go 10 (.go 11 (.rd 12 .fin))))))))))))) [] (by kernel_rfl) (by kernel_rfl) ?_
    refine sI_read (v := (.pointer (some ⟨w.heap.size, 0 + 2, none⟩))) rfl (fun _ _ _ h => absurd h.1 (fun e => nomatch e)) (wanted_rd rfl) hS (fun wx _ => run_fldP (.tmp 2) 2 rfl b2 (by omega) wx) ?_
    show SeqI _ _ _ _ _ _ (Act.put _ (some 5) _) _
    refine sI_read (v := (.int .i64 p.du)) rfl (fun _ _ _ h => absurd h.1 (fun e => nomatch e)) (wanted_rd rfl) hS (fun wx hx => run_lodN (.tmp 5) rfl (ev_same _ _ _ (by omega)) hx.1.pc.2.2.1) ?_
    show SeqI _ _ _ _ _ _ (Act.put _ (some 6) _) _
    refine sI_read (v := (.pointer (some ⟨(w.heap.size + 1), 0 + 2, none⟩))) rfl (fun _ _ _ h => absurd h.1 (fun e => nomatch e)) (wanted_rd rfl) hS (fun wx _ => run_fldP (.tmp 3) 2 rfl ((ev_other _ _ (by decide)).trans ((ev_other _ _ (by decide)).trans b3)) (by omega) wx) ?_
    show SeqI _ _ _ _ _ _ (Act.put _ (some 7) _) _
    refine sI_read (v := (.int .i64 r.du)) rfl (fun _ _ _ h => absurd h.1 (fun e => nomatch e)) (wanted_rd rfl) hS (fun wx hx => run_lodN (.tmp 7) rfl (ev_same _ _ _ (by simp only [sz_put]; omega)) hx.2.pc.2.2.1) ?_
    show SeqI _ _ _ _ _ _ (Act.put _ (some 8) _) _
    refine sI_read (v := (.pointer (some ⟨w.heap.size, 0 + 3, none⟩))) rfl (fun _ _ _ h => absurd h.1 (fun e => nomatch e)) (wanted_rd rfl) hS (fun wx _ => run_fldP (.tmp 2) 3 rfl ((ev_other _ _ (by decide)).trans ((ev_other _ _ (by decide)).trans ((ev_other _ _ (by decide)).trans ((ev_other _ _ (by decide)).trans b2)))) (by omega) wx) ?_
    show SeqI _ _ _ _ _ _ (Act.put _ (some 10) _) _
    refine sI_read (v := (.int .i64 p.se)) rfl (fun _ _ _ h => absurd h.1 (fun e => nomatch e)) (wanted_rd rfl) hS (fun wx hx => run_lodN (.tmp 10) rfl (ev_same _ _ _ (by simp only [sz_put]; omega)) hx.1.pc.2.2.2.1) ?_
    show SeqI _ _ _ _ _ _ (Act.put _ (some 11) _) _
    refine sI_read (v := (.pointer (some ⟨(w.heap.size + 1), 0 + 3, none⟩))) rfl (fun _ _ _ h => absurd h.1 (fun e => nomatch e)) (wanted_rd rfl) hS (fun wx _ => run_fldP (.tmp 3) 3 rfl ((ev_other _ _ (by decide)).trans ((ev_other _ _ (by decide)).trans ((ev_other _ _ (by decide)).trans ((ev_other _ _ (by decide)).trans ((ev_other _ _ (by decide)).trans ((ev_other _ _ (by decide)).trans b3)))))) (by omega) wx) ?_
    show SeqI _ _ _ _ _ _ (Act.put _ (some 12) _) _
    refine sI_read (v := (.int .i64 r.se)) rfl (fun _ _ _ h => absurd h.1 (fun e => nomatch e)) (wanted_rd rfl) hS (fun wx hx => run_lodN (.tmp 12) rfl (ev_same _ _ _ (by simp only [sz_put]; omega)) hx.2.pc.2.2.2.1) ?_
    show SeqI _ _ _ _ _ _ (Act.put _ (some 13) _) _
    refine sI_do rfl (wanted_rd rfl) (fun K hK => ?_)
    refine wp_call2 _ 31 (.tmp 6) (.tmp 8) _ rfl ((ev_other _ _ (by decide)).trans ((ev_other _ _ (by decide)).trans ((ev_other _ _ (by decide)).trans ((ev_other _ _ (by decide)).trans ((ev_other _ _ (by decide)).trans ((ev_other _ _ (by decide)).trans (ev_same _ _ _ (by simp only [sz_put]; omega)))))))) ((ev_other _ _ (by decide)).trans ((ev_other _ _ (by decide)).trans ((ev_other _ _ (by decide)).trans ((ev_other _ _ (by decide)).trans (ev_same _ _ _ (by simp only [sz_put]; omega)))))) (enter_cmp _ _ _) (compare_any p.du r.du _) ?_
    rintro e wq ⟨rfl, hq⟩
    obtain rfl : w2.drew = wq := hq.symm
    refine ⟨_, rfl, ?_⟩
    refine hK _ _ (fun _ => hS) ?_
    clear hK K
    show SeqI _ _ _ _ _ _ (Act.put _ (some 9) _) _
    refine sI_do rfl (wanted_rd rfl) (fun K hK => ?_)
    refine wp_call2 _ 31 (.tmp 11) (.tmp 13) _ rfl ((ev_other _ _ (by decide)).trans ((ev_other _ _ (by decide)).trans ((ev_other _ _ (by decide)).trans (ev_same _ _ _ (by simp only [sz_put]; omega))))) ((ev_other _ _ (by decide)).trans (ev_same _ _ _ (by simp only [sz_put]; omega))) (enter_cmp _ _ _) (compare_any p.se r.se _) ?_
    rintro e wq ⟨rfl, hq⟩
    obtain rfl : w2.drew = wq := hq.symm
    refine ⟨_, rfl, ?_⟩
    refine hK _ _ (fun _ => hS) ?_
    clear hK K
    show SeqI _ _ _ _ _ _ (Act.put _ (some 14) _) _
    refine sI_do rfl (wanted_rd rfl) (fun K hK => ?_)
    refine wp_twoI _ (.tmp 9) (.tmp 14) rfl ((ev_other _ _ (by decide)).trans (ev_same _ _ _ (by simp only [sz_put]; omega))) (ev_same _ _ _ (by simp only [sz_put]; omega)) ?_
    intro w3 c0 c1 k3
    have h3 : PvAt w3 w.heap.size p (.slice pa pn pc) ∧ PvAt w3 (w.heap.size + 1) r (.slice ra rn rc) := ⟨hS.1.below k3, hS.2.below k3⟩
    refine hK _ _ (fun _ => h3) ?_
    clear hK K
    show SeqI _ _ _ _ _ _ (Act.put _ (some 15) _) _
    refine sI_do rfl (wanted_rd rfl) (fun K hK => ?_)
    refine wp_call1 _ 30 (.tmp 15) _ rfl (ev_same _ _ _ (by simp only [sz_put]; omega)) (enter_or _ _) (or_any _ _ _ _ c0 c1) ?_
    rintro e w4 ⟨rfl, k4⟩
    have h4 : PvAt w4 w.heap.size p (.slice pa pn pc) ∧ PvAt w4 (w.heap.size + 1) r (.slice ra rn rc) := ⟨h3.1.below k4, h3.2.below k4⟩
    rw [or_cmp]
    refine ⟨_, rfl, ?_⟩
    refine hK _ _ (fun _ => h4) ?_
    clear hK K
    show SeqI _ _ _ _ _ _ (Act.put _ (some 16) _) _
    refine sI_read (v := (.int .i64 (cmpP p r))) rfl (fun _ _ _ h => absurd h.1 (fun e => nomatch e)) (wanted_rd rfl) h4 (fun wx _ => run_assign (.tmp 16) rfl (ev_same _ _ _ (by simp only [sz_put]; omega)) wx) ?_
    show SeqI _ _ _ _ _ _ (Act.put _ (some 4) _) _
    exact sI_end ⟨rfl, (show Below w2.heap.size w2 w4 from (below_drew (Below.refl _ _)).trans (show Below w2.heap.size w2.drew w4 from k3.trans (k4.mono k3.size))), rfl⟩
  case rest =>
    rintro a' w6 ⟨k6, rfl⟩
    have K6 := hide ((unhide K2).trans (k6.mono (unhide K2).size))
    clear k6
    go_frame
    go_wp2_with fail
    go_ret
    exact ⟨rfl, unhide K6⟩

end Go.Proofs.Ythjeedlhlkggkab
