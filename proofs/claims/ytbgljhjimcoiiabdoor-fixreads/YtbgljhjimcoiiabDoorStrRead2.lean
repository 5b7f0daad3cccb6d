/- Contract of the closure by which fix's readFraction doubles the digits of a fraction. -/
import Derived.Test.YtbgljhjimcoiiabDoorStrRead1
namespace Go.Proofs.YtbgljhjimcoiiabDoor
open Go.RowKit Go.Lib

/-- A row of digits in memory. -/
structure Dg (w : World) (g n : Nat) (d : Nat → Nat) : Prop where
  cell : ∀ j, j < n → w.cell? ⟨g, j, none⟩ = some (.int .u8 ((48 + d j : Nat) : Int))
  free : ∀ j, j < n → w.frozen? ⟨g, j, none⟩ = false
  dig : ∀ j, d j < 10
def updD (d : Nat → Nat) (k x : Nat) : Nat → Nat := fun j => if j = k then x else d j
theorem updD_same (d : Nat → Nat) (k x : Nat) : updD d k x k = x := if_pos rfl
theorem updD_other (d : Nat → Nat) {k j : Nat} (x : Nat) (h : j ≠ k) : updD d k x j = d j := if_neg h
theorem Dg.set {w : World} {g n : Nat} {d : Nat → Nat} (h : Dg w g n d) {k : Nat} (hk : k < n) {x : Nat} (hx : x < 10) : Dg (w.setCell ⟨g, k, none⟩ (.int .u8 ((48 + x : Nat) : Int))) g n (updD d k x) := by
  refine ⟨fun j hj => ?_, fun j hj => ?_, fun j => ?_⟩
  · by_cases e : j = k
    · subst e
      rw [updD_same]
      exact World.cell?_setCell_same _ _ _ (h.cell j hj)
    · rw [updD_other _ _ e, World.cell?_setCell_other _ _ _ _ (by intro e2; cases e2; exact e rfl)]
      exact h.cell j hj
  · rw [World.frozen?_setCell]; exact h.free j hj
  · unfold updD; split
    · exact hx
    · exact h.dig j
/-- The number of the last k of n digits. -/
def lowV (d : Nat → Nat) (n : Nat) : Nat → Nat
  | 0 => 0
  | k + 1 => lowV d n k + d (n - 1 - k) * 10 ^ k
theorem lowV_congr {d e : Nat → Nat} {n : Nat} : ∀ {k : Nat}, k ≤ n → (∀ j, n - k ≤ j → j < n → d j = e j) → lowV d n k = lowV e n k
  | 0, _, _ => rfl
  | k + 1, hk, h => by
    unfold lowV
    rw [lowV_congr (by omega) (fun j h1 h2 => h j (by omega) h2), h (n - 1 - k) (by omega) (by omega)]
theorem lowV_lt {d : Nat → Nat} {n : Nat} (h : ∀ j, d j < 10) (k : Nat) : lowV d n k < 10 ^ k := by
  induction k with
  | zero => show 0 < 1; decide
  | succ k ih =>
    show lowV d n k + d (n - 1 - k) * 10 ^ k < _
    have h1 := h (n - 1 - k)
    have h2 := Nat.mul_le_mul_right (10 ^ k) (show d (n - 1 - k) ≤ 9 by omega)
    rw [Nat.pow_succ]
    omega
theorem low_step {d e : Nat → Nat} {n k c x : Nat} (hk : k < n) (h : lowV e n k + c * 10 ^ k = 2 * lowV d n k) (hx : d (n - 1 - k) = x) :
    lowV (updD e (n - 1 - k) ((2 * x + c) % 10)) n (k + 1) + (2 * x + c) / 10 * 10 ^ (k + 1) = 2 * lowV d n (k + 1) := by
  show lowV (updD e (n - 1 - k) ((2 * x + c) % 10)) n k + updD e (n - 1 - k) ((2 * x + c) % 10) (n - 1 - k) * 10 ^ k + _ = 2 * (lowV d n k + d (n - 1 - k) * 10 ^ k)
  rw [updD_same, lowV_congr (e := e) (by omega) (fun j h1 h2 => updD_other _ _ (by omega)), hx, Nat.pow_succ]
  have e1 : (2 * x + c) % 10 * 10 ^ k + (2 * x + c) / 10 * (10 ^ k * 10) = (2 * x + c) * 10 ^ k := by
    rw [Nat.mul_comm (10 ^ k) 10, ← Nat.mul_assoc, ← Nat.add_mul]
    congr 1
    omega
  have e2 : (2 * x + c) * 10 ^ k = 2 * (x * 10 ^ k) + c * 10 ^ k := by rw [Nat.add_mul, Nat.mul_assoc]
  omega

set_option maxHeartbeats 1000000 in
theorem double_any (bd gd n cv : Nat) (d : Nat → Nat) (w : World) (hn : n ≤ 60) (hc : w.cell? ⟨bd, 0, none⟩ = some (.slice (some ⟨gd, 0, none⟩) n cv)) (hne : bd ≠ gd) (hd : Dg w gd n d) :
    Calls Tryd.prog 25 #[.pointer (some ⟨bd, 0, none⟩)] w fun e w' =>
      ∃ (c : Nat) (d' : Nat → Nat), e = .returned (.int .u64 (c : Int)) ∧ c ≤ 1 ∧ Dg w' gd n d' ∧ lowV d' n n + c * 10 ^ n = 2 * lowV d n n ∧ (∀ a : Addr, a.block ≠ gd → w'.cell? a = w.cell? a) ∧ (∀ B, B ≤ gd → B ≤ w.heap.size → Below B w w') := by
  have HC := hide hc; have HD := hide hd
  clear hd
  go_enter Tryd.func25, Tryd.ntmps25
  go_wp2_with fail
  clear hc
  go_loopg [2, 3, 4] n (fun gk cs is _ wx => ∃ (c : Nat) (e : Nat → Nat), cs = .int .u8 (c : Int) ∧ is = .int .i64 ((gk : Int) - 1) ∧ gk ≤ n ∧ c ≤ 1 ∧ Dg wx gd n e ∧ lowV e n (n - gk) + c * 10 ^ (n - gk) = 2 * lowV d n (n - gk) ∧ (∀ j, j < gk → e j = d j) ∧ (∀ a : Addr, a.block ≠ gd → wx.cell? a = w.cell? a) ∧ (∀ B, B ≤ gd → B ≤ w.heap.size → Below B w wx))
  case atStart => exact ⟨0, d, rfl, rfl, Nat.le_refl _, by decide, unhide HD, by rw [Nat.sub_self]; rfl, fun _ _ => rfl, fun _ _ => rfl, fun B _ _ => Below.refl _ _⟩
  case round =>
    obtain ⟨c, e, rfl, rfl, hgk, hc1, hDe, hv, hsame, hcell, hbl⟩ := hrel
    have HDE := hide hDe; have HV := hide hv; have HSM := hide hsame; have HCL := hide hcell; have HBL := hide hbl
    have hcd := (hcell ⟨bd, 0, none⟩ hne).trans (unhide HC)
    clear hDe hv hsame hcell hbl
    rcases Nat.eq_zero_or_pos gk with hz | hz
    · subst hz
      go_wp2_with fail
      go_ret
      exact ⟨c, e, rfl, hc1, unhide HDE, by have := unhide HV; rw [Nat.sub_zero] at this; exact this, unhide HCL, unhide HBL⟩
    · obtain ⟨j, rfl⟩ : ∃ j, gk = j + 1 := ⟨gk - 1, by omega⟩
      rw [show (((j + 1 : Nat) : Int) - 1) = (j : Int) by omega]
      obtain ⟨x, ex⟩ : ∃ x, d j = x := ⟨_, rfl⟩
      have ex2 : e j = x := by rw [unhide HSM j (by omega), ex]
      have hx : x < 10 := by rw [← ex2]; exact (unhide HDE).dig j
      have cx := (unhide HDE).cell j (by omega)
      rw [ex2] at cx
      have fx := (unhide HDE).free j (by omega)
      have hidx : n - 1 - (n - (j + 1)) = j := by omega
      have HST := hide (show lowV (updD e j ((2 * x + c) % 10)) n (n - j) + (2 * x + c) / 10 * 10 ^ (n - j) = 2 * lowV d n (n - j) from by
        have h := low_step (n := n) (k := n - (j + 1)) (x := x) (by omega) (unhide HV) (by rw [hidx]; exact ex)
        rw [hidx, show n - (j + 1) + 1 = n - j by omega] at h
        exact h)
      have EX := hide (And.intro ex ex2)
      obtain ⟨D, eD⟩ : ∃ D : Nat, 2 * x + c = D := ⟨_, rfl⟩
      rw [eD] at HST
      have eDi : 2 * (x : Int) + (c : Int) = (D : Int) := by omega
      have tm : (D : Int).tmod 10 = ((D % 10 : Nat) : Int) := by rw [Int.tmod_eq_emod_of_nonneg (by omega)]; omega
      have td : (D : Int).tdiv 10 = ((D / 10 : Nat) : Int) := by rw [Int.tdiv_eq_ediv_of_nonneg (by omega)]; omega
      have hD : D ≤ 19 := by omega
      have ED := hide eD
      clear ex ex2 hidx eD
      have ew : 48 + (2 * (48 + (x : Int) - 48) + (c : Int)) % 10 = ((48 + D % 10 : Nat) : Int) := by omega
      have EW := hide ew
      clear ew
      go_wp2_with fail
      go_roundg j
      case measure => omega
      case rel =>
        rw [unhide EW]
        refine ⟨D / 10, updD e j (D % 10), by congr 1; omega, rfl, by omega, by omega, (unhide HDE).set (by omega) (by omega), unhide HST, ?_, ?_, ?_⟩
        · intro i hi
          rw [updD_other _ _ (by omega)]; exact unhide HSM i (by omega)
        · intro a ha
          rw [World.cell?_setCell_other _ _ _ _ (by intro e2; subst e2; exact ha rfl)]
          exact unhide HCL a ha
        · intro B h1 h2
          exact (unhide HBL B h1 h2).setCell h1 _

end Go.Proofs.YtbgljhjimcoiiabDoor
