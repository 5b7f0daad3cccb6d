/- Contract of fix's readFraction: 2^32 times a fraction of decimal digits, to the nearest. -/
import Derived.Test.YtbgljhjimcoiiabDoorStrRead2
import Derived.Laws.IdiomStrings
import Derived.Laws.Bits64b
namespace Go.Proofs.YtbgljhjimcoiiabDoor
open Go.RowKit Go.Lib

/-- The digits of a text. -/
def digOf (l : List UInt8) (j : Nat) : Nat := (l.getD j 48).toNat - 48
theorem digOf_lt {l : List UInt8} (h : l.all isD = true) (j : Nat) : digOf l j < 10 := by
  unfold digOf
  rw [List.getD_eq_getElem?_getD]
  rcases Nat.lt_or_ge j l.length with hj | hj
  · rw [List.getElem?_eq_getElem hj]
    have := (isD_iff l[j]).1 (List.all_eq_true.1 h _ (List.getElem_mem hj))
    show (l[j]).toNat - 48 < 10
    omega
  · rw [List.getElem?_eq_none hj]
    show (48 : UInt8).toNat - 48 < 10
    decide
theorem lowV_shift (d : Nat → Nat) (n : Nat) : ∀ k, k ≤ n → lowV d (n + 1) (k + 1) = d n + 10 * lowV d n k
  | 0, _ => by
    show 0 + d (n + 1 - 1 - 0) * 10 ^ 0 = d n + 10 * 0
    rw [show n + 1 - 1 - 0 = n by omega, Nat.pow_zero]; omega
  | k + 1, hk => by
    show lowV d (n + 1) (k + 1) + d (n + 1 - 1 - (k + 1)) * 10 ^ (k + 1) = d n + 10 * (lowV d n k + d (n - 1 - k) * 10 ^ k)
    rw [lowV_shift d n k (by omega), show n + 1 - 1 - (k + 1) = n - 1 - k by omega, Nat.pow_succ, Nat.mul_add, ← Nat.mul_assoc, Nat.mul_comm (d (n - 1 - k) * 10 ^ k) 10]
    omega
theorem decV_low : ∀ l : List UInt8, decV l = lowV (digOf l) l.length l.length := by
  intro l
  suffices h : ∀ (n : Nat) (l : List UInt8), l.length = n → decV l = lowV (digOf l) n n from h l.length l rfl
  intro n
  induction n with
  | zero => intro l hl; rw [List.length_eq_zero_iff.1 hl]; rfl
  | succ n ih =>
    intro l hl
    obtain ⟨m, c, rfl⟩ : ∃ m c, l = m ++ [c] := ⟨l.dropLast, l.getLast (by intro e; rw [e] at hl; cases hl), (List.dropLast_concat_getLast _).symm⟩
    have hm : m.length = n := by rw [List.length_append] at hl; simp at hl; exact hl
    rw [decV_snoc, lowV_shift _ _ _ (Nat.le_refl _), ih m hm]
    have e1 : digOf (m ++ [c]) n = c.toNat - 48 := by
      unfold digOf
      rw [List.getD_eq_getElem?_getD, ← hm, List.getElem?_append_right (Nat.le_refl _), Nat.sub_self]
      rfl
    have e2 : lowV (digOf (m ++ [c])) n n = lowV (digOf m) n n := lowV_congr (Nat.le_refl _) (fun j _ hj => by
      unfold digOf
      rw [List.getD_eq_getElem?_getD, List.getD_eq_getElem?_getD, List.getElem?_append_left (by omega)])
    rw [e1, e2]
    omega
theorem lowV_zero {d : Nat → Nat} {n : Nat} : ∀ {k : Nat}, lowV d n k = 0 ↔ ∀ j, j < k → d (n - 1 - j) = 0
  | 0 => ⟨fun _ j hj => absurd hj (by omega), fun _ => rfl⟩
  | k + 1 => by
    have hp : 0 < 10 ^ k := Nat.pow_pos (by decide)
    show lowV d n k + d (n - 1 - k) * 10 ^ k = 0 ↔ _
    constructor
    · intro h j hj
      rcases Nat.lt_or_ge j k with h1 | h1
      · exact (lowV_zero (k := k)).1 (by omega) j h1
      · obtain rfl : j = k := by omega
        have : d (n - 1 - j) * 10 ^ j = 0 := by omega
        rcases Nat.mul_eq_zero.1 this with h2 | h2
        · exact h2
        · omega
    · intro h
      rw [(lowV_zero (k := k)).2 (fun j hj => h j (by omega)), h k (by omega), Nat.zero_mul]

/-- The bytes of a row of digits. -/
def digB (d : Nat → Nat) (n : Nat) : List UInt8 := (List.range n).map fun j => UInt8.ofNat (48 + d j)
theorem digB_length (d : Nat → Nat) (n : Nat) : (digB d n).length = n := by unfold digB; rw [List.length_map, List.length_range]
theorem digB_at {d : Nat → Nat} {n j : Nat} (h : ∀ j, d j < 10) (hj : j < (digB d n).length) : ((digB d n)[j]).toNat = 48 + d j := by
  have e : (digB d n)[j]'hj = UInt8.ofNat (48 + d j) := by simp [digB]
  rw [e, UInt8.toNat_ofNat']
  have := h j
  omega
theorem dropWhile_nil {α : Type} {p : α → Bool} : ∀ {l : List α}, l.dropWhile p = [] ↔ ∀ x ∈ l, p x = true
  | [] => by simp
  | a :: l => by
    rw [List.dropWhile_cons]
    split
    · rename_i h
      rw [dropWhile_nil]
      simp [h]
    · rename_i h
      simp [h]
theorem trim_nil (l : List UInt8) : Lib.trimB l 48 = [] ↔ ∀ x ∈ l, x = 48 := by
  unfold Lib.trimB Lib.trimLeftB Lib.trimRightB
  rw [dropWhile_nil]
  constructor
  · intro h x hx
    have hr : (l.reverse.dropWhile (· == 48)) = [] := by
      rcases Classical.em (l.reverse.dropWhile (· == (48 : UInt8)) = []) with h1 | h1
      · exact h1
      · exfalso
        obtain ⟨a, t, e⟩ := List.exists_cons_of_ne_nil h1
        have h2 := List.head_dropWhile_not (fun x : UInt8 => x == 48) (l := l.reverse) h1
        have h3 : a = 48 := by
          have := h a (by rw [e]; simp)
          simpa using this
        have h4 : (l.reverse.dropWhile (fun x : UInt8 => x == 48)).head h1 = a := by
          simp [e]
        rw [h4, h3] at h2
        simp at h2
    have := (dropWhile_nil).1 hr x (by rw [List.mem_reverse]; exact hx)
    simpa using this
  · intro h x hx
    have h1 : x ∈ l := by
      rw [List.mem_reverse] at hx
      have := List.dropWhile_subset (p := (· == (48 : UInt8))) (l := l.reverse) hx
      rw [List.mem_reverse] at this
      exact this
    simp [h x h1]
theorem trim_digits {d : Nat → Nat} {n : Nat} (h : ∀ j, d j < 10) : (Lib.trimB (digB d n) 48 = []) ↔ lowV d n n = 0 := by
  rw [trim_nil, lowV_zero]
  constructor
  · intro h1 j hj
    have h2 : n - 1 - j < (digB d n).length := by rw [digB_length]; omega
    have h3 := h1 _ (List.getElem_mem h2)
    have h4 := digB_at h h2
    rw [h3] at h4
    have e : (48 : UInt8).toNat = 48 := rfl
    omega
  · intro h1 x hx
    obtain ⟨j, hj, rfl⟩ := List.mem_iff_getElem.1 hx
    have hj' := hj
    rw [digB_length] at hj'
    have h3 := h1 (n - 1 - j) (by omega)
    rw [show n - 1 - (n - 1 - j) = j by omega] at h3
    apply UInt8.toNat_inj.1
    rw [digB_at h hj, h3]
    rfl

/-- The fraction's bits: the number so far, and what is left. -/
theorem half_step {F T t N D c D' : Nat} (hT : 0 < T) (hN : N = F * 2 ^ t / T) (hD : D = F * 2 ^ t % T) (h : D' + c * T = 2 * D) (hD' : D' < T) : N * 2 + c = F * 2 ^ (t + 1) / T ∧ D' = F * 2 ^ (t + 1) % T := by
  have e : F * 2 ^ (t + 1) = D' + T * (N * 2 + c) := by
    rw [Nat.pow_succ, ← Nat.mul_assoc]
    have h1 := Nat.div_add_mod (F * 2 ^ t) T
    rw [← hN, ← hD] at h1
    rw [← h1, Nat.add_mul, Nat.mul_add, Nat.mul_comm T c, ← Nat.mul_assoc]
    omega
  constructor
  · rw [e, Nat.add_mul_div_left _ _ hT, Nat.div_eq_of_lt hD', Nat.zero_add]
  · rw [e, Nat.add_mul_mod_self_left, Nat.mod_eq_of_lt hD']
/-- 2^32 times the fraction, to the nearest; where the number is below nought a half goes towards nought. -/
def fracV (l : List UInt8) (neg : Bool) : Nat := decV l * 2 ^ 32 / 10 ^ l.length + (if neg = true ∧ decV l * 2 ^ 33 % 10 ^ l.length = 0 then 0 else decV l * 2 ^ 33 / 10 ^ l.length - 2 * (decV l * 2 ^ 32 / 10 ^ l.length))
theorem or_low (N c : Nat) (hN : N < 4611686018427387904) (hc : c ≤ 1) : bits .or .u64 ((N : Int) * 2) (c : Int) = ((N * 2 + c : Nat) : Int) := by
  have h := bits_or_u64_nat (N * 2) c (by omega) (by omega)
  have e : N * 2 ||| c = N * 2 + c := by
    have := Nat.shiftLeft_add_eq_or_of_lt (i := 1) (b := c) (by omega) N
    rw [Nat.shiftLeft_eq, Nat.pow_one] at this
    exact this.symm
  rw [e] at h
  exact h

end Go.Proofs.YtbgljhjimcoiiabDoor
