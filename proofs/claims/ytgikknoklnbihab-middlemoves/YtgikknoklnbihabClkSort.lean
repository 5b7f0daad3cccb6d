/- A sorted list, and who stands where: plain facts. -/
import Derived.Test.YtgikknoklnbihabClkSpec
namespace Go.Proofs.Ytgikknoklnbihab

/-- The first n numbers as a list. -/
def lsN (f : Nat → Int) (n : Nat) : List Int := (List.range n).map f
theorem lsN_len (f : Nat → Int) (n : Nat) : (lsN f n).length = n := by simp [lsN]
theorem lsN_succ (f : Nat → Int) (n : Nat) : lsN f (n + 1) = lsN f n ++ [f n] := by simp [lsN, List.range_succ]
theorem cn_countP (f : Nat → Int) (p : Int → Bool) (n : Nat) : cn (fun i => p (f i)) n = (lsN f n).countP p := by
  induction n with
  | zero => rfl
  | succ n ih =>
    rw [lsN_succ, List.countP_append, ← ih]
    show cn _ n + (if p (f n) then 1 else 0) = _
    by_cases h : p (f n) = true <;> simp [h]
/-- In order. -/
def srt (l : List Int) : List Int := l.mergeSort (fun x y => decide (x ≤ y))
theorem srt_len (l : List Int) : (srt l).length = l.length := by unfold srt; exact List.length_mergeSort _
theorem srt_perm (l : List Int) : (srt l).Perm l := by unfold srt; exact List.mergeSort_perm _ _
theorem srt_le (l : List Int) : (srt l).Pairwise (fun x y => x ≤ y) := by
  have h : (srt l).Pairwise (fun x y => decide (x ≤ y) = true) := by
    unfold srt
    exact List.pairwise_mergeSort (fun a b c h1 h2 => by have := of_decide_eq_true h1; have := of_decide_eq_true h2; exact decide_eq_true (by omega)) (fun a b => by
      rcases Int.le_total a b with h | h
      · rw [decide_eq_true h]; rfl
      · rw [decide_eq_true h, Bool.or_true]) l
  exact h.imp (fun h => of_decide_eq_true h)
theorem srt_at {l : List Int} {i j : Nat} {x y : Int} (hi : (srt l)[i]? = some x) (hj : (srt l)[j]? = some y) (h : i ≤ j) : x ≤ y := by
  rcases Nat.lt_or_ge i j with c | c
  · have hx := List.getElem?_eq_some_iff.1 hi; have hy := List.getElem?_eq_some_iff.1 hj
    obtain ⟨a, rfl⟩ := hx; obtain ⟨b, rfl⟩ := hy
    exact List.pairwise_iff_getElem.1 (srt_le l) i j a b c
  · have : i = j := by omega
    subst this
    rw [hi] at hj; cases hj; exact Int.le_refl _
theorem srt_less {l : List Int} {k : Nat} {v : Int} (h : (srt l)[k]? = some v) : (srt l).countP (fun x => decide (x < v)) ≤ k := by
  have e := List.take_append_drop k (srt l)
  rw [← e, List.countP_append]
  have h1 : ((srt l).take k).countP (fun x => decide (x < v)) ≤ k := Nat.le_trans List.countP_le_length (by simp; omega)
  have h2 : ((srt l).drop k).countP (fun x => decide (x < v)) = 0 := by
    rw [List.countP_eq_zero]
    intro a ha
    obtain ⟨j, hj⟩ := List.mem_iff_getElem?.1 ha
    rw [List.getElem?_drop] at hj
    have := srt_at h hj (by omega)
    simp; omega
  omega
theorem srt_upto {l : List Int} {k : Nat} {v : Int} (h : (srt l)[k]? = some v) : k < (srt l).countP (fun x => decide (x ≤ v)) := by
  have hk : k < (srt l).length := (List.getElem?_eq_some_iff.1 h).1
  have e := List.take_append_drop (k + 1) (srt l)
  rw [← e, List.countP_append]
  have h1 : ((srt l).take (k + 1)).countP (fun x => decide (x ≤ v)) = k + 1 := by
    have h2 : ((srt l).take (k + 1)).countP (fun x => decide (x ≤ v)) = ((srt l).take (k + 1)).length := by
      rw [List.countP_eq_length]
      intro a ha
      obtain ⟨j, hj⟩ := List.mem_iff_getElem?.1 ha
      have hj' : j < k + 1 := by
        have := (List.getElem?_eq_some_iff.1 hj).1
        simp at this; omega
      rw [List.getElem?_take_of_lt hj'] at hj
      exact decide_eq_true (srt_at hj h (by omega))
    rw [h2, List.length_take]; omega
  omega
theorem rk_srt {f : Nat → Int} {n k : Nat} {v : Int} (h : (srt (lsN f n))[k]? = some v) : IsRk f n k v := by
  have e1 : cl f n v = (srt (lsN f n)).countP (fun x => decide (x < v)) := by
    rw [(srt_perm _).countP_eq]; exact cn_countP f (fun x => decide (x < v)) n
  have e2 : cl f n v + ce f n v = (srt (lsN f n)).countP (fun x => decide (x ≤ v)) := by
    rw [(srt_perm _).countP_eq, cl_le]; exact cn_countP f (fun x => decide (x ≤ v)) n
  exact ⟨by rw [e1]; exact srt_less h, by rw [e2]; exact srt_upto h⟩
/-- The one in the middle, of a list in order. -/
theorem mid_srt {f : Nat → Int} {n : Nat} {a b : Int} (h1 : (srt (lsN f n))[(n - 1) / 3]? = some a) (h2 : (srt (lsN f n))[n - 1 - (n - 1) / 3]? = some b) : IsMid f n ((a + b) / 2) := ⟨a, b, rk_srt h1, rk_srt h2, rfl⟩

/-- Half of a sum, by the bits that differ. -/
theorem and_xor (x y : Nat) : x + y = 2 * (x &&& y) + (x ^^^ y) := by
  induction x using Nat.strongRecOn generalizing y with
  | _ x ih =>
    rcases Nat.eq_zero_or_pos x with h | h
    · subst h; simp
    · have e := ih (x / 2) (by omega) (y / 2)
      have a1 : (x &&& y) / 2 = x / 2 &&& y / 2 := Nat.and_div_two
      have a2 : (x ^^^ y) / 2 = x / 2 ^^^ y / 2 := Nat.xor_div_two
      have b1 : (x &&& y) % 2 = x % 2 &&& y % 2 := Nat.and_mod_two_pow (n := 1)
      have b2 : (x ^^^ y) % 2 = x % 2 ^^^ y % 2 := Nat.xor_mod_two_pow (n := 1)
      rw [← a1, ← a2] at e
      clear a1 a2 ih
      generalize x &&& y = p at *
      generalize x ^^^ y = q at *
      have hx : x % 2 = 0 ∨ x % 2 = 1 := by omega
      have hy : y % 2 = 0 ∨ y % 2 = 1 := by omega
      rcases hx with hx | hx <;> rcases hy with hy | hy <;> rw [hx, hy] at b1 b2
      · have b1 : p % 2 = 0 := b1; have b2 : q % 2 = 0 := b2; omega
      · have b1 : p % 2 = 0 := b1; have b2 : q % 2 = 1 := b2; omega
      · have b1 : p % 2 = 0 := b1; have b2 : q % 2 = 1 := b2; omega
      · have b1 : p % 2 = 1 := b1; have b2 : q % 2 = 0 := b2; omega
theorem half_pat (A B : BitVec 64) : A.toInt + B.toInt = 2 * (A &&& B).toInt + (A ^^^ B).toInt := by
  have h := and_xor A.toNat B.toNat
  rw [← BitVec.toNat_and, ← BitVec.toNat_xor] at h
  rw [BitVec.toInt_eq_msb_cond, BitVec.toInt_eq_msb_cond, BitVec.toInt_eq_msb_cond, BitVec.toInt_eq_msb_cond, BitVec.msb_and, BitVec.msb_xor]
  generalize (A &&& B).toNat = p at *
  generalize (A ^^^ B).toNat = q at *
  cases A.msb <;> cases B.msb <;> simp <;> omega
theorem wrap_pat (A : BitVec 64) : IntKind.i64.wrap (A.toNat : Int) = A.toInt := by
  rw [IntKind.wrap_i64, BitVec.toInt_eq_toNat_cond]
  have := A.isLt
  split <;> omega
theorem pat_of {a : Int} (h : R64 a) : (BitVec.ofInt 64 a).toInt = a := by
  obtain ⟨h1, h2⟩ := h
  rw [BitVec.toInt_ofInt, Int.bmod_def]
  have e : ((2 ^ 64 : Nat) : Int) = 18446744073709551616 := rfl
  rw [e]
  split <;> omega
theorem half_bits {a b : Int} (ha : R64 a) (hb : R64 b) : ∃ p q, bits .and .i64 a b = p ∧ bits .xor .i64 a b = q ∧ R64 p ∧ R64 q ∧ p + q / 2 = (a + b) / 2 := by
  refine ⟨(BitVec.ofInt 64 a &&& BitVec.ofInt 64 b).toInt, (BitVec.ofInt 64 a ^^^ BitVec.ofInt 64 b).toInt, ?_, ?_, ?_, ?_, ?_⟩
  · exact wrap_pat _
  · exact wrap_pat _
  · have h1 := BitVec.le_toInt (BitVec.ofInt 64 a &&& BitVec.ofInt 64 b); have h2 := BitVec.toInt_lt (x := BitVec.ofInt 64 a &&& BitVec.ofInt 64 b)
    exact ⟨by omega, by omega⟩
  · have h1 := BitVec.le_toInt (BitVec.ofInt 64 a ^^^ BitVec.ofInt 64 b); have h2 := BitVec.toInt_lt (x := BitVec.ofInt 64 a ^^^ BitVec.ofInt 64 b)
    exact ⟨by omega, by omega⟩
  · have h := half_pat (BitVec.ofInt 64 a) (BitVec.ofInt 64 b)
    rw [pat_of ha, pat_of hb] at h
    omega

end Go.Proofs.Ytgikknoklnbihab
