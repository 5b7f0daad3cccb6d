/- Contracts of the reference's whole numbers of any size: small (division by one word). -/
import Derived.Test.YtgikknoklnbihaaKnuth
namespace Go.Proofs.Ytgikknoklnbihaa
open Go.RowKit

/-- What stands above word k, and one word more. -/
theorem hi_step {f : Nat → Int} {n k : Nat} (hw : Wd n f) (hk : k < n) : val f n / 4294967296 ^ k = val f n / 4294967296 ^ (k + 1) * 4294967296 + f k := by
  obtain ⟨d, rfl⟩ : ∃ d, n = k + 1 + d := ⟨n - (k + 1), by omega⟩
  have e1 := val_split f k (1 + d)
  have e2 := val_split f (k + 1) d
  rw [← Nat.add_assoc] at e1
  have b1 := val_bd (hw.less (show k ≤ k + 1 + d by omega))
  have b2 := val_bd (hw.less (show k + 1 ≤ k + 1 + d by omega))
  have e3 : val f (k + 1 + d) / 4294967296 ^ (k + 1) = val (fun i => f (k + 1 + i)) d := by
    rw [e2, Int.add_comm, Int.mul_add_ediv_left' _ _ (pow_pos (k + 1)) b2.1 b2.2]
  have e4 : val f (k + 1 + d) / 4294967296 ^ k = val (fun i => f (k + i)) (1 + d) := by
    rw [e1, Int.add_comm, Int.mul_add_ediv_left' _ _ (pow_pos k) b1.1 b1.2]
  rw [e3, e4, val_split]
  have e5 : val (fun i => f (k + i)) 1 = f k := by show 0 + f (k + 0) * 4294967296 ^ 0 = f k; simp
  have e6 : (fun i => (fun i => f (k + i)) (1 + i)) = fun i => f (k + 1 + i) := by funext j; show f (k + (1 + j)) = _; rw [Nat.add_assoc]
  rw [e5, e6]
  show f k + 4294967296 ^ 1 * _ = _
  simp only [Int.reducePow]
  omega
theorem hi_all {f : Nat → Int} {n : Nat} (hw : Wd n f) : val f n / 4294967296 ^ n = 0 := Int.ediv_eq_zero_of_lt (val_bd hw).1 (val_bd hw).2

/-- One word of a division by one word. -/
theorem small_step {g f : Nat → Int} {n k : Nat} {d r : Int} (hw : Wd n f) (hk : k < n) (hd : 0 < d) (hg : g k = 0) (hv : val g n = val f n / 4294967296 ^ (k + 1) / d * 4294967296 ^ (k + 1)) (hr : r = val f n / 4294967296 ^ (k + 1) % d) :
    0 ≤ (r * 4294967296 + f k) / d ∧ (r * 4294967296 + f k) / d < 4294967296 ∧
    val (upd g k ((r * 4294967296 + f k) / d)) n = val f n / 4294967296 ^ k / d * 4294967296 ^ k ∧ (r * 4294967296 + f k) % d = val f n / 4294967296 ^ k % d := by
  have h := hi_step hw hk
  obtain ⟨H, eH⟩ : ∃ H, val f n / 4294967296 ^ (k + 1) = H := ⟨_, rfl⟩
  obtain ⟨G, eG⟩ : ∃ G, val f n / 4294967296 ^ k = G := ⟨_, rfl⟩
  rw [eH] at hv hr h
  rw [eG] at h ⊢
  obtain ⟨w0, w1⟩ := hw k hk
  have r0 : 0 ≤ r := by rw [hr]; exact Int.emod_nonneg _ (by omega)
  have r1 : r < d := by rw [hr]; exact Int.emod_lt_of_pos _ hd
  have eD : d * (H / d) + r = H := by rw [hr]; exact Int.mul_ediv_add_emod H d
  have eT : G = d * (H / d * 4294967296) + (r * 4294967296 + f k) := by
    rw [h, ← eD, ← Int.mul_assoc]
    have : (d * (H / d) + r) / d = H / d := by rw [Int.mul_add_ediv_left' _ _ hd r0 r1]
    rw [this, Int.add_mul]
    omega
  have q1 : G / d = H / d * 4294967296 + (r * 4294967296 + f k) / d := by
    rw [eT, Int.add_comm, Int.add_mul_ediv_left _ _ (by omega), Int.add_comm]
  have q2 : G % d = (r * 4294967296 + f k) % d := by
    rw [eT, Int.add_comm, Int.add_mul_emod_self_left]
  refine ⟨Int.ediv_nonneg (by omega) (by omega), ?_, ?_, q2.symm⟩
  · rw [Int.ediv_lt_iff_lt_mul hd]
    have := Int.mul_le_mul_of_nonneg_right (show r + 1 ≤ d by omega) (show (0 : Int) ≤ 4294967296 by decide)
    rw [Int.mul_comm 4294967296 d]
    omega
  · rw [val_upd_at _ _ _ hk, hv, hg, q1, Int.add_mul, Int.sub_zero, Int.pow_succ, Int.mul_comm (4294967296 ^ k) 4294967296, ← Int.mul_assoc]

set_option maxHeartbeats 1000000 in
theorem small_any (va : Value) (n : Nat) (f : Nat → Int) (d : Int) (hd : 0 < d) (hd1 : d < 4294967296) (hn : n ≤ 100000) (w : World) (ha : Sl w va n f) (wa : Wd n f) :
    Calls Try.prog 75 #[va, .int .u32 d] w fun e w' =>
      ∃ (v : Value) (l : Nat) (g : Nat → Int), e = .returned (.tuple #[v, .int .u32 (val f n % d)]) ∧ Sl w' v l g ∧ Wd l g ∧ Nm l g ∧ val g l = val f n / d ∧ Below w.heap.size w w' := by
  have hmk := fun wx => run_make_row' (P := Try.prog) 53 66 (.int .u32 0) 4 Try.underlying53 Try.infoU32 rfl .i64 .i64 n (by omega) (by omega) wx
  obtain ⟨ao, cap, rfl, -, -, ha⟩ := ha.view
  have HA := hide ha; have WA := hide wa
  have td : (d == 0) = false := by simp; omega
  have dn : d ≠ 0 := by omega
  clear ha wa
  go_enter Try.func75, Try.ntmps75
  go_wp2_with fail
  clear hmk
  go_loopw [7, 8] (fun rs is wr => ∃ (k : Nat) (r : Int) (g : Nat → Int), rs = .int .u64 r ∧ is = .int .i64 ((k : Int) - 1) ∧ k ≤ n ∧ 0 ≤ r ∧ r < d ∧ Own wr w.heap.size n g ∧ (∀ j, 0 ≤ g j ∧ g j < 4294967296) ∧ (∀ j, j < k → g j = 0) ∧ val g n = val f n / 4294967296 ^ k / d * 4294967296 ^ k ∧ r = val f n / 4294967296 ^ k % d ∧ Below w.heap.size w wr)
    (fun _ is _ => (intOf is + 1).toNat)
  case atStart => exact ⟨n, 0, _, rfl, rfl, Nat.le_refl _, Int.le_refl _, hd, own_made w n, fun _ => ⟨Int.le_refl _, by decide⟩, fun _ _ => rfl, by rw [hi_all (unhide WA), Int.zero_ediv, Int.zero_mul]; exact val_noughts (m := 0) (Nat.zero_le _) (fun _ _ _ => rfl), by rw [hi_all (unhide WA), Int.zero_emod], below_new w _⟩
  case round =>
    obtain ⟨k, r, g, rfl, rfl, hk, r0, r1, hO, hW, hz, hv, hr, hB⟩ := hrel
    have HO := hide hO; have HW := hide hW; have HZ := hide hz; have HV := hide hv; have HR := hide hr; have HB := hide hB
    clear hO hW hz hv hr hB
    rcases Nat.eq_zero_or_pos k with h | h
    · subst h
      have E1 := hide (show val g n = val f n / d by have := unhide HV; simpa using this)
      have E2 := hide (show r = val f n % d by have := unhide HR; simpa using this)
      have HWD := hide (show Wd n g from fun i _ => unhide HW i)
      have HOL := hide (unhide HO).lt
      go_wp2_with fail
      refine (trim_core w.heap.size n n g (Nat.le_refl _) (by omega) _ (unhide HO).row).mono ?_
      rintro e w1 ⟨l, rfl, hl, hz, hnm, rfl⟩
      have F := hide (show Sl w1 (.slice (some ⟨w.heap.size, 0, none⟩) l n) l g ∧ Wd l g ∧ Nm l g ∧ val g l = val f n / d ∧ Below w.heap.size w w1 from
        ⟨Or.inr ⟨_, _, rfl, hl, by omega, unhide HOL, (unhide HO).row.less hl⟩, (unhide HWD).less hl, hnm, by rw [← val_noughts hl hz]; exact unhide E1, unhide HB⟩)
      clear hz hnm
      have re : r % 4294967296 = r := by omega
      go_wp2_with fail
      go_ret2
      exact ⟨_, l, g, by rw [← unhide E2]; rfl, unhide F⟩
    · obtain ⟨i, rfl⟩ : ∃ i, k = i + 1 := ⟨k - 1, by omega⟩
      rw [show (((i + 1 : Nat) : Int) - 1) = (i : Int) by omega]
      obtain ⟨ba, rfl, hba, hra⟩ := Has.below' (unhide HA) (unhide HB) (by omega)
      have ca := hra i (by omega)
      obtain ⟨a0, a1⟩ := unhide WA i (by omega)
      obtain ⟨q0, q1, q2, q3⟩ := small_step (unhide WA) (show i < n by omega) hd (unhide HZ i (by omega)) (unhide HV) (unhide HR)
      have co := (unhide HO).cell (show i < n by omega)
      have fo := (unhide HO).free i
      have eo := or_join32 r (f i) r0 (by omega) a0 a1
      have b1 : r * 4294967296 + f i < 18446744073709551616 := by omega
      have b0 : 0 ≤ r * 4294967296 + f i := by omega
      have m0 : 0 ≤ (r * 4294967296 + f i) % d := Int.emod_nonneg _ dn
      have m1 : (r * 4294967296 + f i) % d < d := Int.emod_lt_of_pos _ hd
      have Q2 := hide q2; have Q3 := hide q3
      clear hra q2 q3 h
      go_wp2_with fail
      refine ⟨⟨i, _, _, rfl, rfl, by omega, m0, m1, (unhide HO).set i _, rng_upd (unhide HW) q0 q1, fun j hj => by rw [upd_other _ _ (by omega)]; exact unhide HZ j (by omega), unhide Q2, unhide Q3, (unhide HB).setCell (Nat.le_refl _) _⟩, ?_⟩
      simp [intOf]

end Go.Proofs.Ytgikknoklnbihaa
