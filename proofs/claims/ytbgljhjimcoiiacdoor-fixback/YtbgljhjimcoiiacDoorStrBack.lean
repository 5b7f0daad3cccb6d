/- What fix's Text writes, fix's Read reads: the arithmetic. -/
import Derived.Test.YtbgljhjimcoiiacDoorStrText
import Derived.Test.YtbgljhjimcoiiacDoorStrRead5
namespace Go.Proofs.YtbgljhjimcoiiacDoor
open Go.RowKit Go.Lib

theorem isD_dgt {d : Nat} (h : d < 10) : isD (dgt d) = true := by rw [isD_iff, dgt_toNat h]; omega
theorem decV_padD (k : Nat) : ∀ n, n < 10 ^ k → decV (padD k n) = n := by
  induction k with
  | zero => intro n h; have : n = 0 := by simpa using h
            subst this; rfl
  | succ k ih =>
    intro n h
    rw [Nat.pow_succ] at h
    rw [padD, decV_snoc, ih (n / 10) (by omega), dgt_toNat (by omega)]
    omega
theorem padD_isD (k : Nat) : ∀ n, (padD k n).all isD = true := by
  induction k with
  | zero => intro n; rfl
  | succ k ih =>
    intro n
    rw [padD, List.all_append, ih, List.all_cons, isD_dgt (by omega)]
    rfl
theorem dec_isD (n : Nat) : (decDigits n).all isD = true := by rw [← padD_self]; exact padD_isD _ _
theorem dec_decV (n : Nat) : decV (decDigits n) = n := by rw [← padD_self]; exact decV_padD _ _ (lt_pow_nDigits n)
theorem dec_ne (n : Nat) : decDigits n ≠ [] := by
  intro e
  have h := decDigits_length n
  rw [e] at h
  have := nDigits_pos n
  simp at h
  omega
theorem dec_head (n : Nat) : 0 < n → (decDigits n).head? ≠ some 48 := by
  induction n using Nat.strongRecOn with
  | _ n ih =>
    intro hn
    by_cases h : n < 10
    · rw [decDigits, dif_pos h]
      intro e
      have e2 : dgt n = 48 := Option.some.inj e
      have := (dgt_zero h).1 e2
      omega
    · rw [decDigits, dif_neg h]
      have e : ((decDigits (n / 10)) ++ [UInt8.ofNat (48 + n % 10)]).head? = (decDigits (n / 10)).head? := by
        obtain ⟨c, t, e⟩ := List.exists_cons_of_ne_nil (dec_ne (n / 10))
        rw [e]; rfl
      rw [e]
      exact ih (n / 10) (by omega) (by omega)
theorem isDig_of {l : List UInt8} (h : l.all isD = true) (hn : l ≠ []) : isDig l = true := by
  unfold isDig
  rw [h]
  cases l with
  | nil => exact absurd rfl hn
  | cons _ _ => rfl
theorem dec_whole (n : Nat) : wholeB (decDigits n) = true := by
  unfold wholeB
  rw [isDig_of (dec_isD n) (dec_ne n), Bool.true_and]
  rcases Nat.eq_zero_or_pos n with h | h
  · subst h
    rw [decDigits, dif_pos (by decide)]
    rfl
  · have := dec_head n h
    have e : ((decDigits n).head? != some 48) = true := by simp [this]
    rw [e, Bool.or_true]
theorem not_dot {c : UInt8} (h : isD c = true) : c ≠ 46 ∧ c ≠ 45 := by
  rw [isD_iff] at h
  constructor
  · rintro rfl
    have e : (46 : UInt8).toNat = 46 := rfl
    omega
  · rintro rfl
    have e : (45 : UInt8).toNat = 45 := rfl
    omega
theorem index_none : ∀ l : List UInt8, (∀ c ∈ l, c ≠ 46) → Lib.index l [46] = -1
  | [], _ => rfl
  | c :: l, h => by
    unfold Lib.index
    have h1 : List.isPrefixOf [46] (c :: l) = false := by
      have := h c (by simp)
      simp [List.isPrefixOf]
      exact fun e => this e.symm
    rw [h1, index_none l (fun d hd => h d (by simp [hd]))]
    rfl
theorem index_dot (r : List UInt8) : ∀ l : List UInt8, (∀ c ∈ l, c ≠ 46) → Lib.index (l ++ 46 :: r) [46] = (l.length : Int)
  | [], _ => by
    show Lib.index (46 :: r) [46] = 0
    unfold Lib.index
    have h1 : List.isPrefixOf [46] (46 :: r) = true := by simp [List.isPrefixOf]
    rw [h1]
    rfl
  | c :: l, h => by
    show Lib.index (c :: (l ++ 46 :: r)) [46] = _
    unfold Lib.index
    have h1 : List.isPrefixOf [46] (c :: (l ++ 46 :: r)) = false := by
      have := h c (by simp)
      simp [List.isPrefixOf]
      exact fun e => this e.symm
    rw [h1, index_dot r l (fun d hd => h d (by simp [hd]))]
    have h2 : ((l.length : Int) == -1) = false := beq_eq_false_iff_ne.2 (by omega)
    simp only [h2, Bool.false_eq_true, if_false]
    simp
theorem digits_no_dot {l : List UInt8} (h : l.all isD = true) : ∀ c ∈ l, c ≠ 46 := fun c hc => (not_dot (List.all_eq_true.1 h c hc)).1
theorem cut_none {l : List UInt8} (h : l.all isD = true) : Lib.cut l [46] = (l, [], false) := by
  unfold Lib.cut
  rw [index_none l (digits_no_dot h)]
  rfl
theorem cut_dot {l r : List UInt8} (h : l.all isD = true) : Lib.cut (l ++ 46 :: r) [46] = (l, r, true) := by
  unfold Lib.cut
  rw [index_dot r l (digits_no_dot h), if_pos (by omega), Int.toNat_natCast]
  congr 1
  · simp
  · congr 1
    simp [List.drop_append]
/-- A fraction that ends is read as it was. -/
theorem frac_back {R i : Nat} (hR : R < 4294967296) (h : fRest R (i + 1) = 0) (neg : Bool) : fracV (padD (i + 1) (fNum R (i + 1))) neg = R := by
  obtain ⟨T, eT⟩ : ∃ T, 10 ^ (i + 1) = T := ⟨_, rfl⟩
  have hT : 0 < T := by rw [← eT]; exact Nat.pow_pos (by decide)
  have e1 : fNum R (i + 1) * 4294967296 = R * T := by
    unfold fNum
    unfold fRest at h
    rw [eT] at h ⊢
    omega
  have hF : fNum R (i + 1) < 10 ^ (i + 1) := by
    unfold fNum
    rw [Nat.div_lt_iff_lt_mul (by decide), Nat.mul_comm (10 ^ (i + 1))]
    exact Nat.mul_lt_mul_of_pos_right hR (Nat.pow_pos (by decide))
  unfold fracV
  rw [padD_length, decV_padD _ _ hF, eT, show (2 : Nat) ^ 32 = 4294967296 by decide, show (2 : Nat) ^ 33 = 4294967296 * 2 by decide, ← Nat.mul_assoc, e1]
  have e2 : R * T / T = R := Nat.mul_div_cancel _ hT
  have e3 : R * T * 2 / T = 2 * R := by rw [Nat.mul_right_comm, Nat.mul_div_cancel _ hT, Nat.mul_comm]
  rw [e2, e3]
  split <;> omega

theorem text_back (a : Int) (ha : R64 a) (l : List UInt8) (h : TextOf (absZ a).toNat l) : readV (minus a ++ l) = a ∧ readE (minus a ++ l) = 0 := by
  have hab := absZ_bd ha
  obtain ⟨m, em⟩ : ∃ m : Nat, absZ a = m := ⟨(absZ a).toNat, by omega⟩
  rw [show (absZ a).toNat = m by rw [em]; rfl] at h
  rw [em] at hab
  obtain ⟨W, eW⟩ : ∃ W : Nat, m / 4294967296 = W := ⟨_, rfl⟩
  obtain ⟨R, eR⟩ : ∃ R : Nat, m % 4294967296 = R := ⟨_, rfl⟩
  unfold TextOf at h
  rw [eW, eR] at h
  have hW : W ≤ 2147483648 := by omega
  have hR : R < 4294967296 := by omega
  have hWd : (decDigits W).length ≤ 10 := by rw [decDigits_length]; exact nDigits_le (by decide) (by omega)
  -- the text's parts
  obtain ⟨fr, pt, hcut, hfd, hfv, hlen, hfirst, hpf⟩ : ∃ (fr : List UInt8) (pt : Bool), Lib.cut l [46] = (decDigits W, fr, pt) ∧ fr.all isD = true ∧ (∀ neg, fracV fr neg = R) ∧ l.length ≤ 50 ∧ (∃ c t, l = c :: t ∧ isD c = true) ∧ (pt = true → fr ≠ []) := by
    have hfst : ∀ t : List UInt8, ∃ c t', decDigits W ++ t = c :: t' ∧ isD c = true := by
      intro t
      obtain ⟨c, t', e⟩ := List.exists_cons_of_ne_nil (dec_ne W)
      refine ⟨c, t' ++ t, by rw [e]; rfl, ?_⟩
      have := dec_isD W
      rw [e, List.all_cons, Bool.and_eq_true] at this
      exact this.1
    rcases h with ⟨h1, rfl⟩ | ⟨i, hi, h1, h2, rfl⟩
    · refine ⟨[], false, cut_none (dec_isD W), rfl, fun neg => ?_, by omega, ?_, fun h => by cases h⟩
      · rw [h1]
        unfold fracV
        show 0 * 2 ^ 32 / 10 ^ 0 + _ = 0
        cases neg <;> decide
      · have := hfst []
        rw [List.append_nil] at this
        exact this
    · refine ⟨_, true, cut_dot (dec_isD W), padD_isD _ _, fun neg => frac_back hR h2 neg, ?_, hfst _, fun _ e => ?_⟩
      · rw [List.length_append, List.length_cons, padD_length]; omega
      · have := padD_length (i + 1) (fNum R (i + 1))
        rw [e] at this
        cases this
  obtain ⟨c, t, el, hc⟩ := hfirst
  have hneg : negOf (minus a ++ l) = decide (a < 0) ∧ Lib.trimPrefix (minus a ++ l) [45] = l := by
    unfold negOf Lib.trimPrefix Lib.hasPrefix minus
    by_cases hn : a < 0
    · rw [if_pos hn, decide_eq_true hn]
      have e1 : List.isPrefixOf [45] ([45] ++ l) = true := by simp [List.isPrefixOf]
      rw [e1]
      exact ⟨rfl, rfl⟩
    · rw [if_neg hn, decide_eq_false hn]
      have e1 : List.isPrefixOf [45] ([] ++ l) = false := by
        rw [el]
        simp [List.isPrefixOf]
        exact fun e => (not_dot hc).2 e.symm
      rw [e1]
      exact ⟨rfl, rfl⟩
  have hparts : partsOf (minus a ++ l) = (decDigits W, fr, pt) := by unfold partsOf; rw [hneg.2, hcut]
  have hform : formB (minus a ++ l) = true := by
    unfold formB
    rw [hparts]
    show (wholeB (decDigits W) && (!pt || isDig fr)) = true
    rw [dec_whole, Bool.true_and]
    cases pt
    · rfl
    · rw [isDig_of hfd (hpf rfl)]; rfl
  have hM : readM (minus a ++ l) = a := by
    unfold readM
    rw [hparts, hneg.1]
    show sgnZ (decide (a < 0)) ((wholeV (decDigits W) * 4294967296 + fracV fr (decide (a < 0)) : Nat) : Int) = a
    have ew : wholeV (decDigits W) = W := by unfold wholeV; rw [dec_decV, if_pos (by omega)]
    rw [ew, hfv]
    have e2 : W * 4294967296 + R = m := by omega
    rw [e2, ← em]
    unfold sgnZ absZ
    by_cases hn : a < 0
    · rw [decide_eq_true hn, if_pos rfl, if_pos hn]; omega
    · rw [decide_eq_false hn, if_neg (by decide), if_neg hn]
  have hbent : bentZ a = false := by
    unfold R64 at ha
    unfold bentZ
    rw [decide_eq_false (by omega), decide_eq_false (by omega)]
    rfl
  have hcl : clampZ a = a := by
    unfold R64 at ha
    unfold clampZ
    rw [if_neg (by omega), if_neg (by omega)]
  have hl60 : ¬ 60 < (minus a ++ l).length := by
    rw [List.length_append]
    unfold minus
    split
    · simp; omega
    · simp; omega
  unfold readV readE
  rw [if_neg hl60, if_neg hl60, hform, hM, hbent, hcl]
  exact ⟨rfl, rfl⟩

end Go.Proofs.YtbgljhjimcoiiacDoor
