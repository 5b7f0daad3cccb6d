/- Joined: WireChk, WireTll. -/
import Derived.Test.YtnbpkidjojgghaaMsgPlain
namespace Go.Proofs.Ytnbpkidjojgghaa
open Go.RowKit

set_option maxHeartbeats 1000000 in
theorem check_any (K F R : Int) (ao : Option Addr) (n cap : Nat) (w : World) :
    Calls Try.prog 29 #[msV K F R (.slice ao n cap)] w fun e w' => e = .returned (.int .i64 (wrongM K F R n)) ∧ Below w.heap.size w w' := by
  obtain ⟨w1, e1, m1, k1, _⟩ := mg_alloc w K F R (.slice ao n cap)
  have c0 := m1.cell0; have c1 := m1.cell1; have c2 := m1.cell2; have c3 := m1.cell3
  have E1 := hide e1; have K1 := hide k1
  clear e1 m1 k1
  unfold msV
  by_cases h1 : K < 1
  · have G := hide (show wrongM K F R n = 4 by unfold wrongM; rw [if_pos (by omega)])
    go_enter Try.func29, Try.ntmps29
    go_wp2_with fail
    rw [← unhide E1]
    go_wp2_with fail
    go_ret
    exact ⟨by rw [unhide G]; rfl, unhide K1⟩
  · skip
    by_cases h2 : 5 < K
    · have G := hide (show wrongM K F R n = 4 by unfold wrongM; rw [if_pos (by omega)])
      go_enter Try.func29, Try.ntmps29
      go_wp2_with fail
      rw [← unhide E1]
      go_wp2_with fail
      go_ret
      exact ⟨by rw [unhide G]; rfl, unhide K1⟩
    · skip
      by_cases h3 : F < 0
      · have G := hide (show wrongM K F R n = 3 by unfold wrongM; rw [if_neg (by omega), if_pos (by omega)])
        go_enter Try.func29, Try.ntmps29
        go_wp2_with fail
        rw [← unhide E1]
        go_wp2_with fail
        go_ret
        exact ⟨by rw [unhide G]; rfl, unhide K1⟩
      · skip
        by_cases h4 : 4 ≤ F
        · have G := hide (show wrongM K F R n = 3 by unfold wrongM; rw [if_neg (by omega), if_pos (by omega)])
          go_enter Try.func29, Try.ntmps29
          go_wp2_with fail
          rw [← unhide E1]
          go_wp2_with fail
          go_ret
          exact ⟨by rw [unhide G]; rfl, unhide K1⟩
        · skip
          by_cases h5 : R < 0
          · have G := hide (show wrongM K F R n = 3 by unfold wrongM; rw [if_neg (by omega), if_pos (by omega)])
            go_enter Try.func29, Try.ntmps29
            go_wp2_with fail
            rw [← unhide E1]
            go_wp2_with fail
            go_ret
            exact ⟨by rw [unhide G]; rfl, unhide K1⟩
          · skip
            by_cases h6 : 2147483647 < R
            · have G := hide (show wrongM K F R n = 3 by unfold wrongM; rw [if_neg (by omega), if_pos (by omega)])
              go_enter Try.func29, Try.ntmps29
              go_wp2_with fail
              rw [← unhide E1]
              go_wp2_with fail
              go_ret
              exact ⟨by rw [unhide G]; rfl, unhide K1⟩
            · skip
              by_cases h7 : (24 : Int) < (n : Int)
              · have G := hide (show wrongM K F R n = 6 by unfold wrongM; rw [if_neg (by omega), if_neg (by omega), if_pos (by omega)])
                go_enter Try.func29, Try.ntmps29
                go_wp2_with fail
                rw [← unhide E1]
                go_wp2_with fail
                go_ret
                exact ⟨by rw [unhide G]; rfl, unhide K1⟩
              · have G := hide (show wrongM K F R n = 0 by unfold wrongM; rw [if_neg (by omega), if_neg (by omega), if_neg (by omega)])
                go_enter Try.func29, Try.ntmps29
                go_wp2_with fail
                rw [← unhide E1]
                go_wp2_with fail
                go_ret
                exact ⟨by rw [unhide G]; rfl, unhide K1⟩

theorem sizeOf_any (n : Nat) (w : World) (h : n ≤ 255) :
    Calls Try.prog 30 #[.int .i64 (n : Int)] w fun e w' => e = .returned (.int .i64 ((8 + 8 * n : Nat) : Int)) ∧ w' = w := by
  go_enter Try.func30, Try.ntmps30
  go_wp2_with fail
  go_ret
  exact ⟨by go_num, rfl⟩

end Go.Proofs.Ytnbpkidjojgghaa

namespace Go.Proofs.Ytnbpkidjojgghaa
open Go.RowKit

theorem u64_byte (V : Int) (j : Nat) (hj : j < 8) : IntKind.u64.wrap V / 2 ^ (8 * j) % 256 = V / 256 ^ j % 256 := by
  have e : IntKind.u64.wrap V = V % 18446744073709551616 := rfl
  rw [e]
  clear e
  have : j = 0 ∨ j = 1 ∨ j = 2 ∨ j = 3 ∨ j = 4 ∨ j = 5 ∨ j = 6 ∨ j = 7 := by omega
  rcases this with e | e | e | e | e | e | e | e <;> subst e <;> simp <;> omega
theorem tell_row (V : Int) (N k : Nat) (hk : k < N) (y : Int) (hy : y = V / 256 ^ (N - 1 - k) % 256) : rowV (bF (bt V N)) k ++ rowV (fun _ => Value.int .u8 y) 1 = rowV (bF (bt V N)) (k + 1) := by
  rw [rowV_append]
  refine rowV_congr (fun i hi => ?_)
  by_cases h : i < k
  · rw [if_pos h]
  · rw [if_neg h]
    have : i = k := by omega
    subst this
    show Value.int .u8 y = Value.int .u8 ((bt V N i : Nat) : Int)
    rw [bt_int, hy]

set_option maxHeartbeats 1000000 in
theorem tell_any (B : Nat) (ao : Option Addr) (n cap : Nat) (xs : List Value) (V : Int) (N : Nat) (w : World) (hv : R64 V) (hN : N ≤ 8) (hB : B ≤ w.heap.size) (hn : n ≤ 1000) (ho : w.ownsRow B 5 1 (.slice ao n cap) n xs) :
    Calls Try.prog 31 #[.slice ao n cap, .int .i64 V, .int .i64 (N : Int)] w fun e w' => ∃ v, e = .returned v ∧ w'.ownsRow B 5 1 v (n + N) (xs ++ rowV (bF (bt V N)) N) ∧ Below B w w' := by
  have HV := hide hv; have HO := hide ho; have HB := hide hB
  clear hv ho hB
  go_enter Try.func31, Try.ntmps31
  go_wp2_with fail
  go_loopw [0, 7] (fun bs is wr => ∃ (k c : Nat) (ao : Option Addr), k ≤ N ∧ is = .int .i64 ((N : Int) - 1 - k) ∧ bs = .slice ao (n + k) c ∧ wr.ownsRow B 5 1 (.slice ao (n + k) c) (n + k) (xs ++ rowV (bF (bt V N)) k) ∧ Below B w wr)
    (fun _ is _ => (intOf is + 1).toNat)
  case atStart => exact ⟨0, cap, ao, Nat.zero_le _, by go_num, rfl, by simpa [rowV] using unhide HO, Below.refl _ _⟩
  case round =>
    obtain ⟨k, c, ai, hk, rfl, rfl, ho, hK⟩ := hrel
    rename World => wr
    by_cases hin : k < N
    · obtain ⟨j, ej⟩ : ∃ j : Nat, (N : Int) - 1 - k = j := ⟨N - 1 - k, by omega⟩
      rw [ej]
      obtain ⟨x, ex⟩ : ∃ x, x = IntKind.u64.wrap V / 2 ^ (8 * j) % 256 := ⟨_, rfl⟩
      have ey : x = V / 256 ^ (N - 1 - k) % 256 := by rw [ex, u64_byte V j (by omega), show N - 1 - k = j by omega]
      have BR := hide (tell_row V N k hin x ey)
      have A := al_below wr (.cells #[.int .u8 x] 5)
      have hv : Vh 5 (wr.alloc (.cells #[.int .u8 x] 5)) wr.heap.size 1 1 (fun _ => .int .u8 x) := Vh.new wr 5 #[.int .u8 x] _ (by show 1 ≤ maxLen; decide) (fun i hi => by
        have : i = 0 := by simp at hi; omega
        subst this; rfl)
      have kB := hK.trans (A.mono (Nat.le_trans (unhide HB) hK.size))
      have O1 := hide (own_kept ho A); have KB := hide kB; have ZB := hide (Nat.le_trans (unhide HB) kB.size)
      have R1 := hide (show Sr (wr.alloc (.cells #[.int .u8 x] 5)) (some ⟨wr.heap.size, 0, none⟩) 1 1 (fun _ => .int .u8 x) from Or.inr ⟨_, rfl, fun i hi => by rw [Addr.add_lit, Nat.zero_add]; exact hv.cell hi⟩)
      have EJ := hide ej
      obtain ⟨w1, e1⟩ : ∃ w1, w1 = wr.alloc (.cells #[.int .u8 x] 5) := ⟨_, rfl⟩
      rw [← e1] at O1 KB ZB R1
      rw [ex] at e1
      have E1 := hide e1
      have j1 : (j : Int) < 8 := by omega
      clear ho hK hv kB A ex ey e1
      have EK := hide (show (N : Int) - 1 - ((k + 1 : Nat) : Int) = (j : Int) - 1 by have := unhide EJ; omega)
      clear ej
      go_wp2_with (at_builtin; rw [← unhide E1]; refine wpList_join _ rfl _ _ rfl B (unhide ZB) _ (n + k) (xs ++ rowV (bF (bt V N)) k) rfl (unhide O1) (some ⟨wr.heap.size, 0, none⟩) 1 1 (fun _ => .int .u8 x) rfl (unhide R1) (fun i _ => rfl) (by omega) ?_)
      intro v2 w2 h2 k2
      have h3 : w2.ownsRow B 5 1 v2 (n + (k + 1)) (xs ++ rowV (bF (bt V N)) (k + 1)) := by rw [← unhide BR]; exact h2
      clear h2
      rename w2.ownsRow B 5 1 v2 (n + (k + 1)) (xs ++ rowV (bF (bt V N)) (k + 1)) => h2
      obtain ⟨a2, c2, rfl⟩ := owns_slice h2
      have H2 := hide h2; have K2 := hide ((unhide KB).trans k2)
      clear h2 k2
      go_wp2_with fail
      go_roundw
      case rel => exact ⟨k + 1, c2, a2, by omega, by rw [unhide EK], rfl, unhide H2, unhide K2⟩
      case measure => simp [intOf] <;> omega
    · have : k = N := by omega
      subst this
      have HO1 := hide ho; have HK := hide hK
      clear ho hK
      go_wp2_with fail
      go_ret
      exact ⟨_, rfl, unhide HO1, unhide HK⟩

end Go.Proofs.Ytnbpkidjojgghaa
