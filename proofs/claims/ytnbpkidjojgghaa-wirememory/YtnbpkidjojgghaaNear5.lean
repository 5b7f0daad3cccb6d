/- Joined: OpenMsg, RefMsg. -/
import Derived.Test.YtnbpkidjojgghaaRows
import Derived.Test.YtnbpkidjojgghaaMsgPlain
import Derived.Test.YtnbpkidjojgghaaOpenRow
namespace Go.Proofs.Ytnbpkidjojgghaa
open Go.ChangeShapes Go.WideShapes Go.ChangeAt Go.RowKit Go.Joins

theorem cellsMsg : Try.prog.cellsOf 24 = 4 := by kernel_rfl

section
variable {H : Type} {enc : TypeId × Value → H} {w : World} {base : Nat} {held : Bool}

set_option maxRecDepth 100000 in
theorem open_msgArg {r : Reach} {b0 : Nat} {v : Value} {d : DataW H} {p : List MemPlace} (hv : Value.okWide Try.prog w r b0 24 v) (h : DataW.Trod enc Try.prog w base (fun _ => true) held 24 v d p) (hsz : ∀ n ∈ d.weights Try.prog 24, n ≤ reachBytes) :
    ∃ K F R ao len cap f, v = msV K F R (.slice ao len cap) ∧ R64 K ∧ R64 F ∧ R64 R ∧ ArgS w ao len cap f ∧ len ≤ cap := by
  obtain ⟨c0, c1, c2, c3, y0, y1, y2, y3, m, rfl, rfl, rfl, hy0, hy1, hy2, hy3⟩ := open_agg4 Try.underlying24 (by kernel_rfl) cellsMsg hv h
  obtain ⟨K, e0, _, wK⟩ := DataW.trod_int Try.underlying3 hy0
  obtain ⟨F, e1, _, wF⟩ := DataW.trod_int Try.underlying3 hy1
  obtain ⟨R, e2, _, wR⟩ := DataW.trod_int Try.underlying3 hy2
  simp at e0 e1 e2
  subst e0 e1 e2
  obtain ⟨ao, len, cap, f, rfl, ha⟩ := open_row hy3 (fun n hn => hsz n (by
    simp only [DataW.weights, Try.underlying24, List.map, DataW.weightsEach]
    simp only [List.mem_append]
    exact Or.inr (Or.inr (Or.inr (Or.inl hn)))))
  refine ⟨K, F, R, ao, len, cap, f, rfl, R64.of_wf wK, R64.of_wf wF, R64.of_wf wR, ha, ?_⟩
  rcases open_ints Try.underlying22 Try.underlying3 cellsInt hy3 with ⟨hcs, _⟩ | ⟨a, l, c, zs, hcs, _, hl, _⟩
  · simp at hcs
    omega
  · simp at hcs
    omega
end

end Go.Proofs.Ytnbpkidjojgghaa

namespace Go.Proofs.Ytnbpkidjojgghaa
open Go.RowKit

set_option maxHeartbeats 1000000 in
theorem refWrong_any (K F R : Int) (ao : Option Addr) (n cap : Nat) (w : World) :
    Calls Try.prog 32 #[msV K F R (.slice ao n cap)] w fun e w' => e = .returned (.int .i64 (wrongM K F R n)) ∧ Below w.heap.size w w' := by
  obtain ⟨w1, e1, m1, k1, _⟩ := mg_alloc w K F R (.slice ao n cap)
  have c0 := m1.cell0; have c1 := m1.cell1; have c2 := m1.cell2; have c3 := m1.cell3
  have E1 := hide e1; have K1 := hide k1
  clear e1 m1 k1
  unfold msV
  by_cases h1 : K < 1
  · have G := hide (show wrongM K F R n = 4 by unfold wrongM; rw [if_pos (Or.inl h1)])
    go_enter Try.func32, Try.ntmps32
    go_wp2_with fail
    rw [← unhide E1]
    go_wp2_with fail
    go_ret
    exact ⟨by rw [unhide G]; rfl, unhide K1⟩
  · by_cases h2 : 5 < K
    · have G := hide (show wrongM K F R n = 4 by unfold wrongM; rw [if_pos (Or.inr h2)])
      go_enter Try.func32, Try.ntmps32
      go_wp2_with fail
      rw [← unhide E1]
      go_wp2_with fail
      go_ret
      exact ⟨by rw [unhide G]; rfl, unhide K1⟩
    · by_cases h3 : F < 0
      · have G := hide (show wrongM K F R n = 3 by unfold wrongM; rw [if_neg (by omega), if_pos (by omega)])
        go_enter Try.func32, Try.ntmps32
        go_wp2_with fail
        rw [← unhide E1]
        go_wp2_with fail
        go_ret
        exact ⟨by rw [unhide G]; rfl, unhide K1⟩
      · by_cases h4 : 3 < F
        · have G := hide (show wrongM K F R n = 3 by unfold wrongM; rw [if_neg (by omega), if_pos (by omega)])
          go_enter Try.func32, Try.ntmps32
          go_wp2_with fail
          rw [← unhide E1]
          go_wp2_with fail
          go_ret
          exact ⟨by rw [unhide G]; rfl, unhide K1⟩
        · by_cases h5 : R < 0
          · have G := hide (show wrongM K F R n = 3 by unfold wrongM; rw [if_neg (by omega), if_pos (by omega)])
            go_enter Try.func32, Try.ntmps32
            go_wp2_with fail
            rw [← unhide E1]
            go_wp2_with fail
            go_ret
            exact ⟨by rw [unhide G]; rfl, unhide K1⟩
          · by_cases h6 : 2147483647 < R
            · have G := hide (show wrongM K F R n = 3 by unfold wrongM; rw [if_neg (by omega), if_pos (by omega)])
              go_enter Try.func32, Try.ntmps32
              go_wp2_with fail
              rw [← unhide E1]
              go_wp2_with fail
              go_ret
              exact ⟨by rw [unhide G]; rfl, unhide K1⟩
            · by_cases h7 : 24 < n
              · have G := hide (show wrongM K F R n = 6 by unfold wrongM; rw [if_neg (by omega), if_neg (by omega), if_pos h7])
                have h7' : (24 : Int) < (n : Int) := by omega
                go_enter Try.func32, Try.ntmps32
                go_wp2_with fail
                rw [← unhide E1]
                go_wp2_with fail
                go_ret
                exact ⟨by rw [unhide G]; rfl, unhide K1⟩
              · have G := hide (show wrongM K F R n = 0 by unfold wrongM; rw [if_neg (by omega), if_neg (by omega), if_neg h7])
                go_enter Try.func32, Try.ntmps32
                go_wp2_with fail
                rw [← unhide E1]
                go_wp2_with fail
                go_ret
                exact ⟨by rw [unhide G]; rfl, unhide K1⟩

/-- One byte ahead of a row. -/
theorem bt_row (v : Int) (k : Nat) : [Value.int .u8 (v / 256 ^ k % 256)] ++ rowV (bF (bt v k)) k = rowV (bF (bt v (k + 1))) (1 + k) := by
  have e : [Value.int .u8 (v / 256 ^ k % 256)] = rowV (fun _ => Value.int .u8 (v / 256 ^ k % 256)) 1 := rfl
  rw [e, rowV_append]
  refine rowV_congr (fun i hi => ?_)
  by_cases h : i < 1
  · rw [if_pos h]
    have : i = 0 := by omega
    subst this
    show _ = Value.int .u8 ((bt v (k + 1) 0 : Nat) : Int)
    rw [bt_head]
  · rw [if_neg h]
    obtain ⟨j, rfl⟩ : ∃ j, i = j + 1 := ⟨i - 1, by omega⟩
    show Value.int .u8 ((bt v k (j + 1 - 1) : Nat) : Int) = Value.int .u8 ((bt v (k + 1) (j + 1) : Nat) : Int)
    rw [bt_tail, Nat.add_sub_cancel]

set_option maxHeartbeats 1000000 in
theorem bytesOf_any (V : Int) (N : Nat) (w : World) (hv : R64 V) (hN : N ≤ 8) :
    Calls Try.prog 33 #[.int .i64 V, .int .i64 (N : Int)] w fun e w' => ∃ v, e = .returned v ∧ w'.ownsRow w.heap.size 5 1 v N (rowV (bF (bt V N)) N) ∧ Below w.heap.size w w' := by
  have HV := hide hv
  clear hv
  go_enter Try.func33, Try.ntmps33
  go_wp2_with fail
  go_loopw [0, 1, 5] (fun vs ns bs wr => ∃ (k c : Nat) (ao : Option Addr), k ≤ N ∧ vs = .int .i64 (V / 256 ^ k) ∧ ns = .int .i64 ((N - k : Nat) : Int) ∧ bs = .slice ao k c ∧ wr.ownsRow w.heap.size 5 1 (.slice ao k c) k (rowV (bF (bt V k)) k) ∧ Below w.heap.size w wr)
    (fun _ ns _ _ => (intOf ns).toNat)
  case atStart => exact ⟨0, 0, none, Nat.zero_le _, by rw [Int.pow_zero, Int.ediv_one], rfl, rfl, World.ownsRow_nil _ _ _ _, Below.refl _ _⟩
  case round =>
    obtain ⟨k, c, ao, hk, rfl, rfl, rfl, ho, hK⟩ := hrel
    rename World => wr
    obtain ⟨x, ex⟩ : ∃ x, V / 256 ^ k = x := ⟨_, rfl⟩
    have DX := hide (show x / 256 = V / 256 ^ (k + 1) by rw [← ex, div_next])
    have RX := hide (show R64 x by
      have h := unhide HV
      have hp := pow256_pos k
      unfold R64 at h ⊢
      have h1 : (1 : Int) ≤ 256 ^ k := hp
      subst ex
      refine ⟨?_, ?_⟩
      · exact Int.le_ediv_of_mul_le hp (by
          have : (-9223372036854775808 : Int) * 256 ^ k ≤ -9223372036854775808 * 1 := Int.mul_le_mul_of_nonpos_left (by decide) h1
          omega)
      · refine Int.le_trans ?_ (show (9223372036854775807 : Int) ≤ 9223372036854775807 from Int.le_refl _)
        rcases Int.lt_or_le V 0 with hn | hn
        · have := Int.ediv_neg_of_neg_of_pos hn hp
          omega
        · have := Int.ediv_le_self (256 ^ k) hn
          omega)
    have BR := hide (bt_row V k)
    rw [ex] at BR ⊢
    by_cases hin : k < N
    · have hs0 := (owns_sr ho)
      obtain ⟨a0, c0, e0, s0, _⟩ := hs0
      cases e0
      have S0 := hide (s0.below (al_below wr (.cells #[.int .u8 (x % 256)] 5)))
      have hv : Vh 5 (wr.alloc (.cells #[.int .u8 (x % 256)] 5)) wr.heap.size 1 1 (fun _ => .int .u8 (x % 256)) := Vh.new wr 5 #[.int .u8 (x % 256)] _ (by show 1 ≤ maxLen; decide) (fun i hi => by
        have : i = 0 := by simp at hi; omega
        subst this; rfl)
      have kB := hK.trans ((al_below wr (.cells #[.int .u8 (x % 256)] 5)).mono hK.size)
      have O1 := hide (hv.owns (base := w.heap.size) hK.size); have KB := hide kB; have ZB := hide kB.size
      clear ho hK s0 hv kB ex
      go_wp2_with (at_builtin; refine wpList_join _ rfl _ _ rfl w.heap.size (unhide ZB) (.slice (some ⟨wr.heap.size, 0, none⟩) 1 1) 1 (rowV (fun _ => .int .u8 (x % 256)) 1) rfl (unhide O1) ao k c (bF (bt V k)) rfl (unhide S0) (fun i _ => rfl) (by omega) ?_)
      intro v2 w2 h2 k2
      have h2' : w2.ownsRow w.heap.size 5 1 v2 (1 + k) (rowV (bF (bt V (k + 1))) (1 + k)) := by rw [← unhide BR]; exact h2
      rw [Nat.add_comm 1 k] at h2'
      obtain ⟨a2, c2, rfl⟩ := owns_slice h2'
      have H2 := hide h2'; have K2 := hide ((unhide KB).trans k2)
      clear h2 k2 h2'
      go_wp2_with fail
      go_roundw
      case rel => exact ⟨k + 1, c2, a2, by omega, by rw [← unhide DX], by go_num, rfl, unhide H2, unhide K2⟩
      case measure => simp [intOf] <;> omega
    · have : k = N := by omega
      subst this
      have HO := hide ho; have HK := hide hK
      clear ho hK ex
      go_wp2_with fail
      go_ret
      exact ⟨_, rfl, unhide HO, unhide HK⟩

end Go.Proofs.Ytnbpkidjojgghaa
