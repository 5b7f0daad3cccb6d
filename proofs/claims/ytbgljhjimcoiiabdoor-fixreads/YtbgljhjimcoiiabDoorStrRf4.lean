/- fix's Read and the reference's say the same of every text. -/
import Derived.Test.YtbgljhjimcoiiabDoorStrRf3
namespace Go.Proofs.YtbgljhjimcoiiabDoor
open Go.RowKit Go.Lib

theorem fold_from (l : List UInt8) : ∀ n, l.foldl (fun n c => n * 10 + (c.toNat - 48)) n = n * 10 ^ l.length + decV l := by
  induction l with
  | nil => intro n; show n = n * 1 + 0; omega
  | cons c l ih =>
    intro n
    have h1 : decV (c :: l) = l.foldl (fun n c => n * 10 + (c.toNat - 48)) (0 * 10 + (c.toNat - 48)) := rfl
    rw [List.foldl_cons, ih, h1, ih, List.length_cons, Nat.pow_succ, Nat.add_mul, Nat.zero_mul, Nat.zero_add, Nat.mul_assoc, Nat.mul_comm 10, Nat.add_assoc]
theorem decV_append (a b : List UInt8) : decV (a ++ b) = decV a * 10 ^ b.length + decV b := by
  unfold decV
  rw [List.foldl_append]
  exact fold_from b _

/-- A number to the nearest, halves up. -/
theorem near_up {W N T nx r : Int} (hT : 0 < T) (hr : 0 ≤ r) (hr1 : r < T) (hn : nx = 0 ∨ nx = 1) :
    (W * T * 8589934592 + (T * (2 * N + nx) + r) + T) / (T * 2) = W * 4294967296 + N + nx := by
  refine ediv_of (by omega) ?_ ?_
  all_goals
    have e1 : T * 2 * (W * 4294967296 + N + nx) = W * T * 8589934592 + 2 * (T * N) + 2 * (T * nx) := by
      rw [Int.mul_add, Int.mul_add, Int.mul_comm T 2, Int.mul_assoc 2 T, Int.mul_assoc 2 T, Int.mul_assoc 2 T, ← Int.mul_assoc T W, Int.mul_comm T W]
      omega
    have e2 : T * (2 * N + nx) = 2 * (T * N) + T * nx := by rw [Int.mul_add, ← Int.mul_assoc, Int.mul_comm T 2, Int.mul_assoc]
    rw [e1, e2]
    rcases hn with rfl | rfl
    · rw [Int.mul_zero]; omega
    · rw [Int.mul_one]; omega
theorem near_down {W N T nx r e : Int} (hT : 0 < T) (hr : 0 ≤ r) (hr1 : r < T) (hn : nx = 0 ∨ nx = 1) (he : (r = 0 ∧ e = 0) ∨ (r ≠ 0 ∧ e = nx)) :
    (-(W * T) * 8589934592 - (T * (2 * N + nx) + r) + T) / (T * 2) = -(W * 4294967296 + N + e) := by
  refine ediv_of (by omega) ?_ ?_
  all_goals
    have e1 : T * 2 * -(W * 4294967296 + N + e) = -(W * T * 8589934592 + 2 * (T * N) + 2 * (T * e)) := by
      rw [Int.mul_neg, Int.mul_add, Int.mul_add, Int.mul_comm T 2, Int.mul_assoc 2 T, Int.mul_assoc 2 T, Int.mul_assoc 2 T, ← Int.mul_assoc T W, Int.mul_comm T W]
      omega
    have e2 : T * (2 * N + nx) = 2 * (T * N) + T * nx := by rw [Int.mul_add, ← Int.mul_assoc, Int.mul_comm T 2, Int.mul_assoc]
    rw [e1, e2, Int.neg_mul]
    rcases hn with rfl | rfl
    · rcases he with ⟨h1, rfl⟩ | ⟨h1, rfl⟩
      · rw [Int.mul_zero]; omega
      · rw [Int.mul_zero]; omega
    · rcases he with ⟨h1, rfl⟩ | ⟨h1, rfl⟩
      · rw [Int.mul_zero, Int.mul_one]; omega
      · rw [Int.mul_one]; omega

theorem sgn_f (x : Int) : sgnZ false x = x := rfl
theorem sgn_t (x : Int) : sgnZ true x = -x := rfl
theorem ref_value (wh fr : List UInt8) (ng : Bool) :
    (sgnZ ng ((decV (wh ++ fr) : Nat) : Int) * 8589934592 + ((10 ^ fr.length : Nat) : Int)) / (((10 ^ fr.length : Nat) : Int) * 2) = sgnZ ng ((decV wh * 4294967296 + fracV fr ng : Nat) : Int) := by
  rw [decV_append]
  unfold fracV
  have hT : 0 < 10 ^ fr.length := Nat.pow_pos (by decide)
  obtain ⟨T, eT⟩ : ∃ T, 10 ^ fr.length = T := ⟨_, rfl⟩
  rw [eT] at hT ⊢
  obtain ⟨W, eW⟩ : ∃ W, decV wh = W := ⟨_, rfl⟩
  obtain ⟨F, eF⟩ : ∃ F, decV fr = F := ⟨_, rfl⟩
  rw [eW, eF]
  obtain ⟨N, eN⟩ : ∃ N, F * 2 ^ 32 / T = N := ⟨_, rfl⟩
  obtain ⟨q, eq⟩ : ∃ q, F * 2 ^ 33 / T = q := ⟨_, rfl⟩
  obtain ⟨r, er⟩ : ∃ r, F * 2 ^ 33 % T = r := ⟨_, rfl⟩
  rw [eN, eq, er]
  have h1 := Nat.div_add_mod (F * 2 ^ 33) T
  have h2 := Nat.mod_lt (F * 2 ^ 33) hT
  have h3 := Nat.div_add_mod (F * 2 ^ 32) T
  have h4 := Nat.mod_lt (F * 2 ^ 32) hT
  rw [eq, er] at h1
  rw [er] at h2
  rw [eN] at h3
  have e32 : (2 : Nat) ^ 32 = 4294967296 := by decide
  have e33 : (2 : Nat) ^ 33 = 8589934592 := by decide
  rw [e33] at h1
  rw [e32] at h3 h4
  -- the last bit
  have hq : q = 2 * N ∨ q = 2 * N + 1 := by
    have g1 : 2 * (T * N) ≤ F * 8589934592 := by omega
    have g2 : F * 8589934592 < 2 * (T * N) + 2 * T := by omega
    have g3 : 2 * N ≤ q := by
      rw [← eq, e33, Nat.le_div_iff_mul_le hT, Nat.mul_assoc, Nat.mul_comm N T]
      exact g1
    have g4 : q < 2 * N + 2 := by
      rw [← eq, e33, Nat.div_lt_iff_lt_mul hT, Nat.add_mul, Nat.mul_assoc, Nat.mul_comm N T]
      omega
    omega
  obtain ⟨nx, hnx, hn01⟩ : ∃ nx : Nat, q = 2 * N + nx ∧ (nx = 0 ∨ nx = 1) := by
    rcases hq with h | h
    · exact ⟨0, by omega, Or.inl rfl⟩
    · exact ⟨1, by omega, Or.inr rfl⟩
  have hF : (F : Int) * 8589934592 = (T : Int) * (2 * (N : Int) + (nx : Int)) + (r : Int) := by
    rw [hnx] at h1
    have g : ((T * (2 * N + nx) + r : Nat) : Int) = ((F * 8589934592 : Nat) : Int) := by rw [h1]
    rw [Int.natCast_add, Int.natCast_mul T] at g
    have g2 : ((2 * N + nx : Nat) : Int) = 2 * (N : Int) + (nx : Int) := by omega
    have g3 : ((F * 8589934592 : Nat) : Int) = (F : Int) * 8589934592 := by omega
    rw [g2, g3] at g
    exact g.symm
  have hTi : (0 : Int) < (T : Int) := by omega
  have hri : (r : Int) < (T : Int) := by omega
  cases ng
  · rw [if_neg (by simp), sgn_f, sgn_f]
    have e := near_up (W := W) (N := N) hTi (show (0 : Int) ≤ (r : Int) by omega) hri (nx := nx) (by omega)
    rw [← hF] at e
    have e5 : ((W * T + F : Nat) : Int) * 8589934592 + (T : Int) = (W : Int) * (T : Int) * 8589934592 + (F : Int) * 8589934592 + (T : Int) := by
      rw [Int.natCast_add, Int.natCast_mul, Int.add_mul]
    rw [e5, e]
    omega
  · rw [sgn_t, sgn_t]
    have e5 : -((W * T + F : Nat) : Int) * 8589934592 + (T : Int) = -((W : Int) * (T : Int)) * 8589934592 - (F : Int) * 8589934592 + (T : Int) := by
      rw [Int.natCast_add, Int.natCast_mul, Int.neg_add, Int.add_mul, Int.neg_mul (F : Int)]
      omega
    rw [e5, hF]
    by_cases h0 : r = 0
    · have e := near_down (W := W) (N := N) hTi (show (0 : Int) ≤ (r : Int) by omega) hri (nx := nx) (e := 0) (by omega) (Or.inl ⟨by omega, rfl⟩)
      rw [if_pos ⟨rfl, h0⟩, e]
      omega
    · have e := near_down (W := W) (N := N) hTi (show (0 : Int) ≤ (r : Int) by omega) hri (nx := nx) (e := nx) (by omega) (Or.inr ⟨by omega, rfl⟩)
      rw [if_neg (fun h => h0 h.2), e]
      omega

theorem read_same (l : List UInt8) (hl : l.length ≤ 60) : refV l = readV l ∧ refE l = readE l := by
  have hno : ¬ 60 < l.length := by omega
  unfold refV refE readV readE
  rw [if_neg hno, if_neg hno]
  cases hf : formB l
  · exact ⟨rfl, rfl⟩
  · obtain ⟨wh, fr, pt, hp⟩ : ∃ wh fr pt, partsOf l = (wh, fr, pt) := ⟨_, _, _, rfl⟩
    have hM : refM l = sgnZ (negOf l) ((decV wh * 4294967296 + fracV fr (negOf l) : Nat) : Int) := by
      unfold refM
      rw [hp]
      exact ref_value wh fr (negOf l)
    have hR : readM l = sgnZ (negOf l) ((wholeV wh * 4294967296 + fracV fr (negOf l) : Nat) : Int) := by
      unfold readM
      rw [hp]
    have key : (refM l = readM l) ∨ (bentZ (refM l) = true ∧ bentZ (readM l) = true) := by
      rcases Nat.lt_or_ge 2147483649 (decV wh) with h | h
      · right
        have ew : wholeV wh = 2147483649 := by unfold wholeV; rw [if_neg (by omega)]
        rw [hM, hR, ew]
        unfold bentZ sgnZ
        cases negOf l
        · constructor
          · simp; omega
          · simp; omega
        · constructor
          · simp; omega
          · simp; omega
      · left
        have ew : wholeV wh = decV wh := by unfold wholeV; rw [if_pos h]
        rw [hM, hR, ew]
    rcases key with h | ⟨h1, h2⟩
    · rw [h]
      cases hb : bentZ (readM l)
      · have hc : clampZ (readM l) = readM l := by
          unfold bentZ at hb
          rw [Bool.or_eq_false_iff, decide_eq_false_iff_not, decide_eq_false_iff_not] at hb
          unfold clampZ
          rw [if_neg hb.1, if_neg hb.2]
        rw [hc]
        exact ⟨rfl, rfl⟩
      · exact ⟨rfl, rfl⟩
    · rw [h1, h2]
      exact ⟨rfl, rfl⟩

theorem refRead_long (l : List UInt8) (w : World) (hl : 60 < l.length) :
    Calls Tryd.prog 5 #[.string ⟨l.toArray⟩] w fun e w' => e = .returned (.tuple #[.int .i64 0, .int .i64 1]) ∧ w' = w := by
  have hS := size_mk l
  obtain ⟨n, en⟩ : ∃ n, l.length = n := ⟨_, rfl⟩
  rw [en] at hS hl
  obtain ⟨S, eS⟩ : ∃ S : ByteArray, (⟨l.toArray⟩ : ByteArray) = S := ⟨_, rfl⟩
  rw [eS] at hS ⊢
  have hi : decide ((60 : Int) < (n : Int)) = true := decide_eq_true (by omega)
  clear en eS
  go_enter Tryd.func5, Tryd.ntmps5
  go_wp2_with fail
  go_ret2
  exact ⟨rfl, rfl⟩
theorem refRead_nil (w : World) :
    Calls Tryd.prog 5 #[.string ⟨#[]⟩] w fun e w' => e = .returned (.tuple #[.int .i64 0, .int .i64 2]) ∧ w' = w := by
  go_enter Tryd.func5, Tryd.ntmps5
  go_wp2_with fail
  go_loopg [5, 6, 7] 0 (fun gk sa ps is wx => gk = 0 ∧ sa = .string ⟨#[]⟩ ∧ ps = .int .i64 (-1) ∧ is = .int .i64 0 ∧ w = wx)
  case atStart => exact ⟨rfl, rfl, rfl, rfl, rfl⟩
  case round =>
    obtain ⟨rfl, rfl, rfl, rfl, rfl⟩ := hrel
    go_wp2_with fail
    go_ret2
    exact ⟨rfl, rfl⟩
theorem refRead_any (l : List UInt8) (w : World) :
    Calls Tryd.prog 5 #[.string ⟨l.toArray⟩] w fun e w' => e = .returned (.tuple #[.int .i64 (readV l), .int .i64 (readE l)]) ∧ Below w.heap.size w w' := by
  rcases Nat.lt_or_ge 60 l.length with h | h
  · refine (refRead_long l w h).mono ?_
    rintro e w' ⟨rfl, rfl⟩
    unfold readV readE
    rw [if_pos h, if_pos h]
    exact ⟨rfl, Below.refl _ _⟩
  · rw [← (read_same l h).1, ← (read_same l h).2]
    cases l with
    | nil =>
      refine (refRead_nil w).mono ?_
      rintro e w' ⟨rfl, rfl⟩
      exact ⟨rfl, Below.refl _ _⟩
    | cons c t =>
      obtain ⟨wh, fr, pt, hp⟩ : ∃ wh fr pt, partsOf (c :: t) = (wh, fr, pt) := ⟨_, _, _, rfl⟩
      by_cases hc : c = 45
      · subst hc
        have e1 : Lib.trimPrefix (45 :: t) [45] = t := by
          unfold Lib.trimPrefix Lib.hasPrefix
          simp [List.isPrefixOf]
        have hs := cut_spec (show Lib.cut t [46] = (wh, fr, pt) from by rw [← e1]; exact hp)
        exact refRead_minus (45 :: t) t wh fr pt h (by simp) rfl hp hs w
      · have e1 : Lib.trimPrefix (c :: t) [45] = c :: t := by
          unfold Lib.trimPrefix Lib.hasPrefix
          have e2 : List.isPrefixOf [45] (c :: t) = false := by
            simp [List.isPrefixOf]
            exact fun e => hc e.symm
          rw [e2]
          rfl
        have hs := cut_spec (show Lib.cut (c :: t) [46] = (wh, fr, pt) from by rw [← e1]; exact hp)
        exact refRead_plain (c :: t) (c :: t) wh fr pt h (by simp) ⟨by simp [hc], rfl⟩ hp hs w

set_option maxHeartbeats 400000 in
theorem fixReads_walk (l : List UInt8) (mx : Int) (w : World) (hm : w.cell? ⟨0, 0, none⟩ = some (.int .i64 mx)) :
    Calls Tryd.prog 3 #[.string ⟨l.toArray⟩] w fun e w' => e = .returned (.bool true) ∧ Below w.heap.size w w' := by
  have HM := hide hm
  have S1 := hide (show readV [49, 46, 53] = 6442450944 by decide +kernel)
  clear hm
  go_enter Tryd.func3, Tryd.ntmps3
  go_wp2_with fail
  refine (read_any l mx _ (unhide HM)).mono ?_
  rintro e w1 ⟨rfl, k1⟩
  have K1 := hide k1
  clear k1
  go_wp2_with fail
  refine (refRead_any l _).mono ?_
  rintro e w2 ⟨rfl, k2⟩
  have K2 := hide ((unhide K1).trans (k2.mono (unhide K1).size))
  have HM2 := hide (((unhide K2).cell (World.block_lt_of_cell? _ _ (unhide HM))).trans (unhide HM))
  clear k2
  obtain ⟨v, ev⟩ : ∃ v, readV l = v := ⟨_, rfl⟩
  obtain ⟨er, eer⟩ : ∃ er, readE l = er := ⟨_, rfl⟩
  rw [ev, eer]
  clear ev eer
  go_wp2_with fail
  refine (read_any [49, 46, 53] mx _ (unhide HM2)).mono ?_
  rintro e w3 ⟨rfl, k3⟩
  rw [unhide S1]
  have K3 := hide ((unhide K2).trans (k3.mono (unhide K2).size))
  clear k3
  go_wp2_with fail
  go_ret
  exact ⟨rfl, unhide K3⟩

end Go.Proofs.YtbgljhjimcoiiabDoor
