/- Joined: MsgPlain, RefMsg. -/
import Derived.Test.YtnbpkidjojgghaaIntMem
import Derived.Test.YtnbpkidjojgghaaWireSpec
namespace Go.Proofs.Ytnbpkidjojgghaa
open Go.RowKit

/-- A message as a value. -/
def msV (K F R : Int) (v : Value) : Value := .agg #[.int .i64 K, .int .i64 F, .int .i64 R, v]
/-- The block of a message's variable. -/
def MgAt (w : World) (b : Nat) (K F R : Int) (v : Value) : Prop := w.heap[b]? = some (.cells #[.int .i64 K, .int .i64 F, .int .i64 R, v] 24 (0, 0))
section
variable {w w' : World} {b : Nat} {K F R : Int} {v : Value}
theorem MgAt.cell0 (h : MgAt w b K F R v) : w.cell? ⟨b, 0, none⟩ = some (.int .i64 K) := by unfold MgAt at h; unfold World.cell?; rw [h]; rfl
theorem MgAt.cell1 (h : MgAt w b K F R v) : w.cell? ⟨b, 1, none⟩ = some (.int .i64 F) := by unfold MgAt at h; unfold World.cell?; rw [h]; rfl
theorem MgAt.cell2 (h : MgAt w b K F R v) : w.cell? ⟨b, 2, none⟩ = some (.int .i64 R) := by unfold MgAt at h; unfold World.cell?; rw [h]; rfl
theorem MgAt.cell3 (h : MgAt w b K F R v) : w.cell? ⟨b, 3, none⟩ = some v := by unfold MgAt at h; unfold World.cell?; rw [h]; rfl
theorem MgAt.free (h : MgAt w b K F R v) (i : Nat) : w.frozen? ⟨b, i, none⟩ = false := by unfold MgAt at h; simp [World.frozen?, h]
theorem MgAt.lt (h : MgAt w b K F R v) : b < w.heap.size := lt_of_block h
theorem MgAt.same (h : MgAt w b K F R v) (e : w'.heap[b]? = w.heap[b]?) : MgAt w' b K F R v := e.trans h
theorem MgAt.below (h : MgAt w b K F R v) (k : Below w.heap.size w w') : MgAt w' b K F R v := h.same (k.block b h.lt)
theorem MgAt.under {B : Nat} (h : MgAt w b K F R v) (k : Below B w w') (hb : b < B) : MgAt w' b K F R v := h.same (k.block b hb)
theorem MgAt.kept {z : Nat} (h : MgAt w b K F R v) (k : Kept z w w') (hz : b ≠ z) : MgAt w' b K F R v := h.same (k.block b h.lt hz)
theorem MgAt.new (w : World) (K F R : Int) (v : Value) : MgAt (w.alloc (.cells #[.int .i64 K, .int .i64 F, .int .i64 R, v] 24)) w.heap.size K F R v := by
  unfold MgAt
  show (w.heap.push _)[w.heap.size]? = _
  rw [Array.getElem?_push_size]
theorem MgAt.put (h : MgAt w b K F R v) (K' F' R' : Int) (u : Value) :
    ∃ w', w' = (((w.setCell ⟨b, 0, none⟩ (.int .i64 K')).setCell ⟨b, 1, none⟩ (.int .i64 F')).setCell ⟨b, 2, none⟩ (.int .i64 R')).setCell ⟨b, 3, none⟩ u ∧ MgAt w' b K' F' R' u ∧ Kept b w w' := by
  refine ⟨_, rfl, ?_, (((kept_set w b 0 _).trans (kept_set _ b 1 _) (Or.inl rfl)).trans (kept_set _ b 2 _) (Or.inl rfl)).trans (kept_set _ b 3 _) (Or.inl rfl)⟩
  unfold MgAt at h ⊢
  have h1 := heap_setCell_same w b 0 _ _ (.int .i64 K') h
  have h2 := heap_setCell_same _ b 1 _ _ (.int .i64 F') h1
  have h3 := heap_setCell_same _ b 2 _ _ (.int .i64 R') h2
  exact heap_setCell_same _ b 3 _ _ u h3
theorem MgAt.put2 (h : MgAt w b K F R v) (R' : Int) : ∃ w', w' = w.setCell ⟨b, 2, none⟩ (.int .i64 R') ∧ MgAt w' b K F R' v ∧ Kept b w w' := by
  refine ⟨_, rfl, ?_, kept_set w b 2 _⟩
  unfold MgAt at h ⊢
  exact heap_setCell_same w b 2 _ _ (.int .i64 R') h
theorem MgAt.put3 (h : MgAt w b K F R v) (u : Value) : ∃ w', w' = w.setCell ⟨b, 3, none⟩ u ∧ MgAt w' b K F R u ∧ Kept b w w' := by
  refine ⟨_, rfl, ?_, kept_set w b 3 _⟩
  unfold MgAt at h ⊢
  exact heap_setCell_same w b 3 _ _ u h
end
theorem mg_alloc (w : World) (K F R : Int) (v : Value) : ∃ w1, w1 = w.alloc (.cells #[.int .i64 K, .int .i64 F, .int .i64 R, v] 24) ∧ MgAt w1 w.heap.size K F R v ∧ Below w.heap.size w w1 ∧ w1.heap.size = w.heap.size + 1 :=
  ⟨_, rfl, MgAt.new w K F R v, al_below w _, al_size w _⟩
theorem below_le {w w' : World} {B C : Nat} (h : Below B w w') (e : C ≤ B) : Below C w w' := h.mono e

end Go.Proofs.Ytnbpkidjojgghaa

namespace Go.Proofs.Ytnbpkidjojgghaa
open Go.RowKit

set_option maxHeartbeats 1000000 in
theorem refWrong_any (K F R : Int) (ao : Option Addr) (n cap : Nat) (w : World) :
    Calls Try.prog 32 #[msV K F R (.slice ao n cap)] w fun e w' => e = .returned (.int .i64 (wrongM K F R n)) ∧ Below w.heap.size w w' := by
  obtain ⟨w1, e1, m1, k1, _⟩ := mg_alloc w K F R (.slice ao n cap)
  have c0 := m1.cell0; have c1 := m1.cell1; have c2 := m1.cell2; have c3 := m1.cell3
  have E1 := hide e1; have K1 := hide k1
  clear e1 m1 k1
  unfold msV
  by_cases h1 : K < 1
  · have G := hide (show wrongM K F R n = 4 by unfold wrongM; rw [if_pos (Or.inl h1)])
    go_enter Try.func32, Try.ntmps32
    go_wp2_with fail
    rw [← unhide E1]
    go_wp2_with fail
    go_ret
    exact ⟨by rw [unhide G]; rfl, unhide K1⟩
  · by_cases h2 : 5 < K
    · have G := hide (show wrongM K F R n = 4 by unfold wrongM; rw [if_pos (Or.inr h2)])
      go_enter Try.func32, Try.ntmps32
      go_wp2_with fail
      rw [← unhide E1]
      go_wp2_with fail
      go_ret
      exact ⟨by rw [unhide G]; rfl, unhide K1⟩
    · by_cases h3 : F < 0
      · have G := hide (show wrongM K F R n = 3 by unfold wrongM; rw [if_neg (by omega), if_pos (by omega)])
        go_enter Try.func32, Try.ntmps32
        go_wp2_with fail
        rw [← unhide E1]
        go_wp2_with fail
        go_ret
        exact ⟨by rw [unhide G]; rfl, unhide K1⟩
      · by_cases h4 : 3 < F
        · have G := hide (show wrongM K F R n = 3 by unfold wrongM; rw [if_neg (by omega), if_pos (by omega)])
          go_enter Try.func32, Try.ntmps32
          go_wp2_with fail
          rw [← unhide E1]
          go_wp2_with fail
          go_ret
          exact ⟨by rw [unhide G]; rfl, unhide K1⟩
        · by_cases h5 : R < 0
          · have G := hide (show wrongM K F R n = 3 by unfold wrongM; rw [if_neg (by omega), if_pos (by omega)])
            go_enter Try.func32, Try.ntmps32
            go_wp2_with fail
            rw [← unhide E1]
            go_wp2_with fail
            go_ret
            exact ⟨by rw [unhide G]; rfl, unhide K1⟩
          · by_cases h6 : 2147483647 < R
            · have G := hide (show wrongM K F R n = 3 by unfold wrongM; rw [if_neg (by omega), if_pos (by omega)])
              go_enter Try.func32, Try.ntmps32
              go_wp2_with fail
              rw [← unhide E1]
              go_wp2_with fail
              go_ret
              exact ⟨by rw [unhide G]; rfl, unhide K1⟩
            · by_cases h7 : 24 < n
              · have G := hide (show wrongM K F R n = 6 by unfold wrongM; rw [if_neg (by omega), if_neg (by omega), if_pos h7])
                have h7' : (24 : Int) < (n : Int) := by omega
                go_enter Try.func32, Try.ntmps32
                go_wp2_with fail
                rw [← unhide E1]
                go_wp2_with fail
                go_ret
                exact ⟨by rw [unhide G]; rfl, unhide K1⟩
              · have G := hide (show wrongM K F R n = 0 by unfold wrongM; rw [if_neg (by omega), if_neg (by omega), if_neg h7])
                go_enter Try.func32, Try.ntmps32
                go_wp2_with fail
                rw [← unhide E1]
                go_wp2_with fail
                go_ret
                exact ⟨by rw [unhide G]; rfl, unhide K1⟩

/-- One byte ahead of a row. -/
theorem bt_row (v : Int) (k : Nat) : [Value.int .u8 (v / 256 ^ k % 256)] ++ rowV (bF (bt v k)) k = rowV (bF (bt v (k + 1))) (1 + k) := by
  have e : [Value.int .u8 (v / 256 ^ k % 256)] = rowV (fun _ => Value.int .u8 (v / 256 ^ k % 256)) 1 := rfl
  rw [e, rowV_append]
  refine rowV_congr (fun i hi => ?_)
  by_cases h : i < 1
  · rw [if_pos h]
    have : i = 0 := by omega
    subst this
    show _ = Value.int .u8 ((bt v (k + 1) 0 : Nat) : Int)
    rw [bt_head]
  · rw [if_neg h]
    obtain ⟨j, rfl⟩ : ∃ j, i = j + 1 := ⟨i - 1, by omega⟩
    show Value.int .u8 ((bt v k (j + 1 - 1) : Nat) : Int) = Value.int .u8 ((bt v (k + 1) (j + 1) : Nat) : Int)
    rw [bt_tail, Nat.add_sub_cancel]

set_option maxHeartbeats 1000000 in
theorem bytesOf_any (V : Int) (N : Nat) (w : World) (hv : R64 V) (hN : N ≤ 8) :
    Calls Try.prog 33 #[.int .i64 V, .int .i64 (N : Int)] w fun e w' => ∃ v, e = .returned v ∧ w'.ownsRow w.heap.size 5 1 v N (rowV (bF (bt V N)) N) ∧ Below w.heap.size w w' := by
  have HV := hide hv
  clear hv
  go_enter Try.func33, Try.ntmps33
  go_wp2_with fail
  go_loopw [0, 1, 5] (fun vs ns bs wr => ∃ (k c : Nat) (ao : Option Addr), k ≤ N ∧ vs = .int .i64 (V / 256 ^ k) ∧ ns = .int .i64 ((N - k : Nat) : Int) ∧ bs = .slice ao k c ∧ wr.ownsRow w.heap.size 5 1 (.slice ao k c) k (rowV (bF (bt V k)) k) ∧ Below w.heap.size w wr)
    (fun _ ns _ _ => (intOf ns).toNat)
  case atStart => exact ⟨0, 0, none, Nat.zero_le _, by rw [Int.pow_zero, Int.ediv_one], rfl, rfl, World.ownsRow_nil _ _ _ _, Below.refl _ _⟩
  case round =>
    obtain ⟨k, c, ao, hk, rfl, rfl, rfl, ho, hK⟩ := hrel
    rename World => wr
    obtain ⟨x, ex⟩ : ∃ x, V / 256 ^ k = x := ⟨_, rfl⟩
    have DX := hide (show x / 256 = V / 256 ^ (k + 1) by rw [← ex, div_next])
    have RX := hide (show R64 x by
      have h := unhide HV
      have hp := pow256_pos k
      unfold R64 at h ⊢
      have h1 : (1 : Int) ≤ 256 ^ k := hp
      subst ex
      refine ⟨?_, ?_⟩
      · exact Int.le_ediv_of_mul_le hp (by
          have : (-9223372036854775808 : Int) * 256 ^ k ≤ -9223372036854775808 * 1 := Int.mul_le_mul_of_nonpos_left (by decide) h1
          omega)
      · refine Int.le_trans ?_ (show (9223372036854775807 : Int) ≤ 9223372036854775807 from Int.le_refl _)
        rcases Int.lt_or_le V 0 with hn | hn
        · have := Int.ediv_neg_of_neg_of_pos hn hp
          omega
        · have := Int.ediv_le_self (256 ^ k) hn
          omega)
    have BR := hide (bt_row V k)
    rw [ex] at BR ⊢
    by_cases hin : k < N
    · have hs0 := (owns_sr ho)
      obtain ⟨a0, c0, e0, s0, _⟩ := hs0
      cases e0
      have S0 := hide (s0.below (al_below wr (.cells #[.int .u8 (x % 256)] 5)))
      have hv : Vh 5 (wr.alloc (.cells #[.int .u8 (x % 256)] 5)) wr.heap.size 1 1 (fun _ => .int .u8 (x % 256)) := Vh.new wr 5 #[.int .u8 (x % 256)] _ (by show 1 ≤ maxLen; decide) (fun i hi => by
        have : i = 0 := by simp at hi; omega
        subst this; rfl)
      have kB := hK.trans ((al_below wr (.cells #[.int .u8 (x % 256)] 5)).mono hK.size)
      have O1 := hide (hv.owns (base := w.heap.size) hK.size); have KB := hide kB; have ZB := hide kB.size
      clear ho hK s0 hv kB ex
      go_wp2_with (at_builtin; refine wpList_join _ rfl _ _ rfl w.heap.size (unhide ZB) (.slice (some ⟨wr.heap.size, 0, none⟩) 1 1) 1 (rowV (fun _ => .int .u8 (x % 256)) 1) rfl (unhide O1) ao k c (bF (bt V k)) rfl (unhide S0) (fun i _ => rfl) (by omega) ?_)
      intro v2 w2 h2 k2
      have h2' : w2.ownsRow w.heap.size 5 1 v2 (1 + k) (rowV (bF (bt V (k + 1))) (1 + k)) := by rw [← unhide BR]; exact h2
      rw [Nat.add_comm 1 k] at h2'
      obtain ⟨a2, c2, rfl⟩ := owns_slice h2'
      have H2 := hide h2'; have K2 := hide ((unhide KB).trans k2)
      clear h2 k2 h2'
      go_wp2_with fail
      go_roundw
      case rel => exact ⟨k + 1, c2, a2, by omega, by rw [← unhide DX], by go_num, rfl, unhide H2, unhide K2⟩
      case measure => simp [intOf] <;> omega
    · have : k = N := by omega
      subst this
      have HO := hide ho; have HK := hide hK
      clear ho hK ex
      go_wp2_with fail
      go_ret
      exact ⟨_, rfl, unhide HO, unhide HK⟩

end Go.Proofs.Ytnbpkidjojgghaa
