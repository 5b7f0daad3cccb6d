/- Contract of fix's Text: the whole part's digits, and the fraction's up to the last that is no nought. -/
import Derived.Test.YtbgljhjimcoiiacDoorStrFrac
namespace Go.Proofs.YtbgljhjimcoiiacDoor
open Go.RowKit Go.Lib

/-- The text of m / 2^32. -/
def TextOf (m : Nat) (l : List UInt8) : Prop :=
  (m % 4294967296 = 0 ∧ l = decDigits (m / 4294967296)) ∨
  ∃ i, i ≤ 31 ∧ fRest (m % 4294967296) i ≠ 0 ∧ fRest (m % 4294967296) (i + 1) = 0 ∧ l = decDigits (m / 4294967296) ++ 46 :: padD (i + 1) (fNum (m % 4294967296) (i + 1))
theorem TextOf.one {m : Nat} {l l' : List UInt8} (h : TextOf m l) (h' : TextOf m l') : l = l' := by
  have zero : ∀ R i, R = 0 → fRest R i = 0 := fun R i h => by subst h; unfold fRest; rw [Nat.zero_mul]
  rcases h with ⟨h1, h2⟩ | ⟨i, hi, h1, h2, h3⟩ <;> rcases h' with ⟨k1, k2⟩ | ⟨j, hj, k1, k2, k3⟩
  · rw [h2, k2]
  · exact absurd (zero _ j h1) k1
  · exact absurd (zero _ i k1) h1
  · have hij : i = j := by
      rcases Nat.lt_trichotomy i j with h | h | h
      · obtain ⟨d, rfl⟩ : ∃ d, j = i + 1 + d := ⟨j - (i + 1), by omega⟩
        exact absurd (padD_end _ _ h2 d).1 k1
      · exact h
      · obtain ⟨d, rfl⟩ : ∃ d, i = j + 1 + d := ⟨i - (j + 1), by omega⟩
        exact absurd (padD_end _ _ k2 d).1 h1
    subst hij
    rw [h3, k3]
def minus (a : Int) : List UInt8 := if a < 0 then [45] else []

set_option maxHeartbeats 1000000 in
set_option maxRecDepth 100000 in
theorem text_any (a : Int) (ha : R64 a) (w : World) (htab : Lib.TabIs Tryd.prog w "internal/strconv.uint64pow10" .u64 Lib.pow10Tab) :
    Calls Tryd.prog 5 #[.int .i64 a] w fun e w' => ∃ l, TextOf (absZ a).toNat l ∧ e = .returned (.string ⟨(minus a ++ l).toArray⟩) ∧ Below w.heap.size w w' := by
  have HA := hide ha; have HT := hide htab
  have hab := absZ_bd ha
  obtain ⟨m, em⟩ : ∃ m : Nat, absZ a = m := ⟨(absZ a).toNat, by omega⟩
  rw [em] at hab
  rw [show (absZ a).toNat = m by rw [em]; rfl]
  have EM := hide em
  obtain ⟨W, eW⟩ : ∃ W : Nat, m / 4294967296 = W := ⟨_, rfl⟩
  obtain ⟨R, eR⟩ : ∃ R : Nat, m % 4294967296 = R := ⟨_, rfl⟩
  have eW' : (m : Int) / 4294967296 = (W : Int) := by omega
  have eR' : bits .and .u64 (m : Int) 4294967295 = (R : Int) := by rw [M64.maskN m (by omega), eR]
  have hW : W < 18446744073709551616 := by omega
  have hR : R < 4294967296 := by omega
  have hm0 : (0 : Int) ≤ m := by omega
  have hm1 : (m : Int) < 18446744073709551616 := by omega
  have TO := hide (show TextOf m = fun l => (R = 0 ∧ l = decDigits W) ∨ ∃ i, i ≤ 31 ∧ fRest R i ≠ 0 ∧ fRest R (i + 1) = 0 ∧ l = decDigits W ++ 46 :: padD (i + 1) (fNum R (i + 1)) from by
    funext l; unfold TextOf; rw [eW, eR])
  clear ha htab em eW eR hab
  go_enter Tryd.func5, Tryd.ntmps5
  go_wp2_with fail
  refine (size_any a (unhide HA) _).mono ?_
  rintro e w1 ⟨rfl, rfl⟩
  rw [unhide EM]
  go_wp2_with fail
  refine (formatUint_any W hW _ (unhide HT)).mono ?_
  rintro e w2 ⟨rfl, k2⟩
  have K2 := hide k2
  clear k2
  have hS : (⟨(decDigits W).toArray⟩ : ByteArray).size ≤ 20 := by
    show (decDigits W).toArray.size ≤ 20
    rw [List.size_toArray, decDigits_length]
    exact nDigits_le (by decide) (by omega)
  obtain ⟨S, eS⟩ : ∃ S : ByteArray, (⟨(decDigits W).toArray⟩ : ByteArray) = S := ⟨_, rfl⟩
  rw [eS] at hS ⊢
  have ES := hide eS
  clear eS
  have hcat := fun wx => run_string_add_sum (P := Tryd.prog) (w := wx) ⟨#[45]⟩ S (by show 1 + S.size ≤ _; omega)
  obtain ⟨S2, eS2⟩ : ∃ S2 : ByteArray, (⟨#[45]⟩ : ByteArray) ++ S = S2 := ⟨_, rfl⟩
  rw [eS2] at hcat
  have ES2 := hide eS2
  clear eS2
  rcases Int.lt_or_le a 0 with h | h
  · have MN := hide (show minus a = [45] from if_pos h)
    have hS2 : S2.size ≤ 21 := by rw [← unhide ES2, ByteArray.size_append]; show 1 + S.size ≤ 21; omega
    have ET := hide (show S2 = ⟨(minus a ++ decDigits W).toArray⟩ from by rw [← unhide ES2, ← unhide ES, unhide MN]; exact ByteArray.mk_append_mk [45] _)
    have hdot := fun wx => run_string_add_sum (P := Tryd.prog) (w := wx) S2 ⟨#[46]⟩ (by show S2.size + 1 ≤ _; omega)
    obtain ⟨S3, eS3⟩ : ∃ S3 : ByteArray, S2 ++ (⟨#[46]⟩ : ByteArray) = S3 := ⟨_, rfl⟩
    rw [eS3] at hdot
    have ES3 := hide eS3
    have hS3 : S3.size ≤ 22 := by rw [← eS3, ByteArray.size_append]; show S2.size + 1 ≤ 22; omega
    clear eS3
    rcases Nat.eq_zero_or_pos R with h0 | h0
    · have hz : ((R : Int) == 0) = true := by simp; omega
      have H0 := hide h0
      clear h0
      go_wp2_with fail
      go_ret
      refine ⟨decDigits W, ?_, ?_, unhide K2⟩
      · rw [unhide TO]; exact Or.inl ⟨unhide H0, rfl⟩
      · rw [← unhide ET]; rfl
    · have hz : ((R : Int) == 0) = false := by simp; omega
      go_wp2_with fail
      refine (frac_any R h0 hR _).mono ?_
      rintro e w3 ⟨i, i31, f1, f2, rfl, k3⟩
      have hF : (⟨(padD (i + 1) (fNum R (i + 1))).toArray⟩ : ByteArray).size ≤ 32 := by
        show (padD (i + 1) (fNum R (i + 1))).toArray.size ≤ 32
        rw [List.size_toArray, padD_length]; omega
      have K3 := hide ((unhide K2).trans (k3.mono (unhide K2).size))
      have FF := hide (And.intro f1 f2)
      obtain ⟨F, eF⟩ : ∃ F : ByteArray, (⟨(padD (i + 1) (fNum R (i + 1))).toArray⟩ : ByteArray) = F := ⟨_, rfl⟩
      rw [eF] at hF ⊢
      have EF := hide eF
      have hend := fun wx => run_string_add_sum (P := Tryd.prog) (w := wx) S3 F (by omega)
      clear eF f1 f2 k3
      obtain ⟨S4, eS4⟩ : ∃ S4 : ByteArray, S3 ++ F = S4 := ⟨_, rfl⟩
      rw [eS4] at hend
      have ES4 := hide eS4
      clear eS4
      go_wp2_with fail
      go_ret
      refine ⟨decDigits W ++ 46 :: padD (i + 1) (fNum R (i + 1)), ?_, ?_, unhide K3⟩
      · rw [unhide TO]; exact Or.inr ⟨i, i31, (unhide FF).1, (unhide FF).2, rfl⟩
      · show Ending.returned (Value.string S4) = _
        rw [← unhide ES4, ← unhide ES3, ← unhide EF, unhide ET, ByteArray.mk_append_mk (minus a ++ decDigits W) [46], ByteArray.mk_append_mk]
        simp [List.append_assoc]
  · have MN := hide (show minus a = [] from if_neg (by omega))
    have hnd : decide (a < 0) = false := decide_eq_false (by omega)
    have ET := hide (show S = ⟨(minus a ++ decDigits W).toArray⟩ from by rw [← unhide ES, unhide MN]; rfl)
    have hdot := fun wx => run_string_add_sum (P := Tryd.prog) (w := wx) S ⟨#[46]⟩ (by show S.size + 1 ≤ _; omega)
    obtain ⟨S3, eS3⟩ : ∃ S3 : ByteArray, S ++ (⟨#[46]⟩ : ByteArray) = S3 := ⟨_, rfl⟩
    rw [eS3] at hdot
    have ES3 := hide eS3
    have hS3 : S3.size ≤ 22 := by rw [← eS3, ByteArray.size_append]; show S.size + 1 ≤ 22; omega
    clear eS3
    rcases Nat.eq_zero_or_pos R with h0 | h0
    · have hz : ((R : Int) == 0) = true := by simp; omega
      have H0 := hide h0
      clear h0
      go_wp2_with fail
      go_ret
      refine ⟨decDigits W, ?_, ?_, unhide K2⟩
      · rw [unhide TO]; exact Or.inl ⟨unhide H0, rfl⟩
      · rw [← unhide ET]; rfl
    · have hz : ((R : Int) == 0) = false := by simp; omega
      go_wp2_with fail
      refine (frac_any R h0 hR _).mono ?_
      rintro e w3 ⟨i, i31, f1, f2, rfl, k3⟩
      have hF : (⟨(padD (i + 1) (fNum R (i + 1))).toArray⟩ : ByteArray).size ≤ 32 := by
        show (padD (i + 1) (fNum R (i + 1))).toArray.size ≤ 32
        rw [List.size_toArray, padD_length]; omega
      have K3 := hide ((unhide K2).trans (k3.mono (unhide K2).size))
      have FF := hide (And.intro f1 f2)
      obtain ⟨F, eF⟩ : ∃ F : ByteArray, (⟨(padD (i + 1) (fNum R (i + 1))).toArray⟩ : ByteArray) = F := ⟨_, rfl⟩
      rw [eF] at hF ⊢
      have EF := hide eF
      have hend := fun wx => run_string_add_sum (P := Tryd.prog) (w := wx) S3 F (by omega)
      clear eF f1 f2 k3
      obtain ⟨S4, eS4⟩ : ∃ S4 : ByteArray, S3 ++ F = S4 := ⟨_, rfl⟩
      rw [eS4] at hend
      have ES4 := hide eS4
      clear eS4
      go_wp2_with fail
      go_ret
      refine ⟨decDigits W ++ 46 :: padD (i + 1) (fNum R (i + 1)), ?_, ?_, unhide K3⟩
      · rw [unhide TO]; exact Or.inr ⟨i, i31, (unhide FF).1, (unhide FF).2, rfl⟩
      · show Ending.returned (Value.string S4) = _
        rw [← unhide ES4, ← unhide ES3, ← unhide EF, unhide ET, ByteArray.mk_append_mk (minus a ++ decDigits W) [46], ByteArray.mk_append_mk]
        simp [List.append_assoc]

end Go.Proofs.YtbgljhjimcoiiacDoor
