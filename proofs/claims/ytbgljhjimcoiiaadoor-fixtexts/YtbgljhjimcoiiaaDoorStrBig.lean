/- Contracts of the reference's whole numbers of any size: Text at base 10 and String: the decimal digits. -/
import Derived.Test.YtbgljhjimcoiiaaDoorStrText
import Derived.Test.YtbgljhjimcoiiaaDoorBigExp
namespace Go.Proofs.YtbgljhjimcoiiaaDoor
open Go.RowKit Go.Lib

theorem padD_front : ∀ (k n : Nat), padD (k + 1) n = dgt (n / 10 ^ k % 10) :: padD k n
  | 0, n => by
    show [] ++ [dgt (n % 10)] = [dgt (n / 10 ^ 0 % 10)]
    rw [Nat.pow_zero, Nat.div_one]; rfl
  | k + 1, n => by
    rw [padD, padD_front k (n / 10), Nat.div_div_eq_div_mul, ← Nat.pow_succ']
    rfl
theorem nDigits_of {X i : Nat} (h0 : X / 10 ^ (i + 1) = 0) (h1 : X / 10 ^ i ≠ 0) : nDigits X = i + 1 := by
  have hp : 0 < 10 ^ i := Nat.pow_pos (by decide)
  have hp1 : 0 < 10 ^ (i + 1) := Nat.pow_pos (by decide)
  refine nDigits_unique i X ?_ ?_
  · rcases Nat.lt_or_ge X (10 ^ i) with h | h
    · exact absurd (Nat.div_eq_of_lt h) h1
    · exact h
  · rcases Nat.lt_or_ge X (10 ^ (i + 1)) with h | h
    · exact h
    · have := Nat.div_pos h hp1
      omega
theorem dec_len {X i K : Nat} (hX : X < 2 ^ K) (h : X / 10 ^ i ≠ 0) : i < K := by
  have h1 : 10 ^ i ≤ X := by
    rcases Nat.lt_or_ge X (10 ^ i) with h2 | h2
    · exact absurd (Nat.div_eq_of_lt h2) h
    · exact h2
  rcases Nat.lt_or_ge i K with h2 | h2
  · exact h2
  · have a : 2 ^ K ≤ 2 ^ i := Nat.pow_le_pow_right (by decide) h2
    have b : 2 ^ i ≤ 10 ^ i := Nat.pow_le_pow_left (by decide) i
    omega

/-- Words that lie beside a row of bytes that grows. -/
theorem sl_grown {w w' : World} {av v : Value} {l n base : Nat} {f : Nat → Int} {bs : List UInt8} (hs : Sl w av l f) (ho : w.ownsRow base 5 1 v n (bcells bs)) (hn : n = 0 → v.ownBlock = none) (hg : w.grownBy w' v.ownBlock) : Sl w' av l f := by
  rcases hs with hs | ⟨b, cap, hv, h1, h2, h3, h4⟩
  · exact Or.inl hs
  · refine Or.inr ⟨b, cap, hv, h1, h2, Nat.lt_of_lt_of_le h3 hg.size, ?_⟩
    intro k hk
    have hne : v.ownBlock ≠ some b ∨ v.ownBlock = none := by
      rcases Nat.eq_zero_or_pos n with h0 | h0
      · exact Or.inr (hn h0)
      · left
        intro hb
        have hlen : bs.length = n := by have := ho.1; rw [bcells_len] at this; omega
        have hc := ho.cells hb 0 (.int .u8 ((bs[0]'(by omega)).toNat : Int)) (by unfold bcells; rw [List.getElem?_map, List.getElem?_eq_getElem (by omega)]; rfl)
        rw [Lib.add_plain] at hc
        have h5 := h4 0 (by omega)
        rw [show (0 : Nat) + 0 = 0 from rfl] at hc
        rw [hc] at h5
        cases h5
    have hbk : w'.heap[b]? = w.heap[b]? := hg.block b h3 (by
      rcases hne with h | h
      · exact fun e => h e.symm
      · rw [h]; simp)
    exact (World.cell?_of_block (w := w) (a := ⟨b, k, none⟩) hbk).trans (h4 k hk)

/-- The bytes behind t rounds of turning round. -/
def turnB (P : List UInt8) (k t p : Nat) : UInt8 := if p < t ∨ k - t < p then P.getD p 0 else P.getD (k - p) 0
theorem turnB_at {P : List UInt8} {k t : Nat} (h : t < k - t) : turnB P k t t = P.getD (k - t) 0 ∧ turnB P k t (k - t) = P.getD t 0 := by
  unfold turnB
  rw [if_neg (by omega), if_neg (by omega), show k - (k - t) = t by omega]
  exact ⟨rfl, rfl⟩
theorem turnB_next {P : List UInt8} {k t p : Nat} (h : t < k - t) (hp : p ≤ k) : turnB P k (t + 1) p = if p = k - t then P.getD (k - t) 0 else if p = t then P.getD t 0 else turnB P k t p := by
  unfold turnB
  split
  · split
    · rename_i h1 h2; rw [h2]
    · split
      · rename_i h1 h2 h3; rw [h3]
      · rename_i h1 h2 h3; rw [if_pos (by omega)]
  · rename_i h1
    rw [if_neg (by omega), if_neg (by omega), if_neg (by omega)]
theorem turnB_end {P : List UInt8} {k t p : Nat} (h : ¬ t < k - t) (ht : 2 * t ≤ k + 1) (hp : p ≤ k) : turnB P k t p = P.getD p 0 := by
  unfold turnB
  split
  · rfl
  · congr 1; omega

set_option maxHeartbeats 4000000 in
set_option maxRecDepth 100000 in
theorem bigText_any (b : Nat) (x : Int) (x1 : 1 ≤ x) (w : World) (hx : Num w b x) (dx : Bd x) :
    Calls Tryd.prog 29 #[.pointer (some ⟨b, 0, none⟩), .int .i64 10] w fun e w' =>
      e = .returned (.string ⟨(decDigits x.toNat).toArray⟩) ∧ Below w.heap.size w w' := by
  obtain ⟨i0, hi, hz0, hz1, hz2⟩ := info_parts infoU8
  obtain ⟨xn, xv, n, fa, hx1, hx2, hx3, hx4, hx5, hx6⟩ := hx
  have hn0 : n ≠ 0 := by
    rintro rfl
    have : x = sgnZ xn 0 := hx5
    cases xn <;> simp [sgnZ] at this <;> omega
  have hxn : xn = false := by
    cases xn
    · rfl
    · have := val_pos hx3 hx4 hn0
      have e : x = -val fa n := hx5
      omega
  subst hxn
  have hn : n ≤ 100 := by
    unfold Bd at dx
    rw [hx5, absZ_sgn (val_bd hx3).1] at dx
    exact len_le hx3 hx4 dx
  have c1 := hx1.cell0; have c2 := hx1.cell1
  have C1 := hide c1
  have tn : ((n : Int) == 0) = false := by simp; omega
  have HX2 := hide hx2; have HX3 := hide hx3; have HX4 := hide hx4
  obtain ⟨X, eX⟩ : ∃ X : Nat, x = X := ⟨x.toNat, by omega⟩
  subst eX
  rw [Int.toNat_natCast]
  have hX32 : X < 2 ^ (32 * n) := by
    have a := (val_bd hx3).2
    rw [← show (X : Int) = val fa n from hx5, pow32] at a
    have e : ((2 ^ (32 * n) : Nat) : Int) = (2 : Int) ^ (32 * n) := by simp
    omega
  have E := hide (show val fa n = (X : Int) from hx5.symm)
  have HX32 := hide hX32
  obtain ⟨ao, capa, rfl, -, -, -⟩ := hx2.view
  clear hx1 hx2 hx3 hx4 hx5 hx6 dx hX32
  go_enter Tryd.func29, Tryd.ntmps29
  go_wp2_with fail
  refine (twin_words _ n fa (by omega) _ (unhide HX2)).mono ?_
  rintro e w1 ⟨v, rfl, h2, h6⟩
  have H2 := hide h2; have H6 := hide h6
  obtain ⟨vo, cap, rfl, -, -, -⟩ := h2.view
  clear h2 h6 c2 c1
  go_wp2_with fail
  go_loopg [5, 6, 7] X (fun gk bs sa _ wr => ∃ (i V l : Nat) (g : Nat → Int) (ao : Option Addr) (cv : Nat), V = gk ∧ V = X / 10 ^ i ∧ bs = .slice ao i cv ∧ (i = 0 → ao = none) ∧ wr.ownsRow w.heap.size 5 1 bs i (bcells (padD i X).reverse) ∧ Sl wr sa l g ∧ Wd l g ∧ Nm l g ∧ val g l = (V : Int) ∧ l ≤ 100 ∧ (∀ j, j < i → X / 10 ^ j ≠ 0) ∧ Below w.heap.size w wr)
  case atStart => exact ⟨0, X, n, fa, none, 0, rfl, by rw [Nat.pow_zero, Nat.div_one], rfl, fun _ => rfl, World.ownsRow_nil _ _ _ _, unhide H2, unhide HX3, unhide HX4, unhide E, hn, fun j hj => absurd hj (by omega), unhide H6⟩
  case round =>
    obtain ⟨i, V, l, g, bo, cv, rfl, hV, rfl, hbo, hown, hsl, hwd, hnm, hval, hl, hall, hbl⟩ := hrel
    have HV := hide hV; have HSL := hide hsl; have HWD := hide hwd; have HNM := hide hnm; have HVAL := hide hval; have HALL := hide hall; have HBL := hide hbl; have HBO := hide hbo
    have hi3 : i ≤ 3200 := by
      rcases Nat.eq_zero_or_pos i with h | h
      · omega
      · have := dec_len (unhide HX32) (hall (i - 1) (by omega))
        omega
    obtain ⟨wo, capw, rfl, -, -, -⟩ := hsl.view
    have hsize := hbl.size
    clear hV hsl hwd hnm hval hall hbl hbo
    rcases Nat.eq_zero_or_pos l with h0 | h0
    · subst h0
      have hV0 : V = 0 := by
        have := unhide HVAL
        have e : val g 0 = 0 := rfl
        omega
      have hi0 : i ≠ 0 := by
        rintro rfl
        have := unhide HV
        rw [Nat.pow_zero, Nat.div_one] at this
        omega
      obtain ⟨k, rfl⟩ : ∃ k, i = k + 1 := ⟨i - 1, by omega⟩
      have hnd : nDigits X = k + 1 := nDigits_of (by rw [← unhide HV]; exact hV0) (unhide HALL k (by omega))
      have HPD := hide (show padD (k + 1) X = decDigits X from by rw [← hnd, padD_self])
      obtain ⟨gb, rfl, hgb⟩ : ∃ gb, bo = some ⟨gb, 0, none⟩ ∧ w.heap.size ≤ gb := by
        rcases hown.2 with ⟨_, h⟩ | ⟨gb, cap', cur, hv, hge, -⟩
        · omega
        · cases hv; exact ⟨gb, rfl, hge⟩
      have cn := cell_below (unhide C1) (unhide HBL)
      have HOWN := hide hown
      clear hV0 hnd hown
      obtain ⟨P, eP⟩ : ∃ P, padD (k + 1) X = P := ⟨_, rfl⟩
      have hPl : P.length = k + 1 := by rw [← eP]; exact padD_length _ _
      have HST := hide (show ∀ p, p ≤ k → (bcells (padD (k + 1) X).reverse)[p]? = some (.int .u8 ((turnB P k 0 p).toNat : Int)) from by
        intro p hp
        rw [eP]
        unfold bcells turnB
        rw [List.getElem?_map, List.getElem?_eq_getElem (by rw [List.length_reverse]; omega), List.getElem_reverse]
        rw [if_neg (by omega), List.getD_eq_getElem?_getD, List.getElem?_eq_getElem (by omega)]
        show some (Value.int .u8 ((P[P.length - 1 - p]'(by omega)).toNat : Int)) = some (Value.int .u8 ((P[k - p]'(by omega)).toNat : Int))
        have e : P.length - 1 - p = k - p := by omega
        simp only [e])
      go_wp2_with fail
      clear cn
      go_loopg [8, 9, 10] (k + 1) (fun gk is js _ wx => ∃ (t : Nat) (xs : List Value), gk = k + 1 - t ∧ is = .int .i64 (t : Int) ∧ js = .int .i64 ((k : Int) - (t : Int)) ∧ 2 * t ≤ k + 1 ∧ wx.ownsRow w.heap.size 5 1 (.slice (some ⟨gb, 0, none⟩) (k + 1) cv) (k + 1) xs ∧ (∀ p, p ≤ k → xs[p]? = some (.int .u8 ((turnB P k t p).toNat : Int))) ∧ Below w.heap.size w wx)
      case atStart => exact ⟨0, _, rfl, rfl, by simp, by omega, unhide HOWN, unhide HST, unhide HBL⟩
      case round =>
        obtain ⟨t, xs, rfl, rfl, rfl, ht, hox, hxs, hbx⟩ := hrel
        have HXS := hide hxs; have HBX := hide hbx
        clear hbx
        by_cases htk : t < k - t
        · obtain ⟨q1, q2⟩ := turnB_at (P := P) htk
          have ci := (hox.cellAt t (by omega)).trans (hxs t (by omega))
          have cj := (hox.cellAt (k - t) (by omega)).trans (hxs (k - t) (by omega))
          rw [q1] at ci; rw [q2] at cj
          obtain ⟨A, eA⟩ : ∃ A : Nat, (P.getD (k - t) 0).toNat = A := ⟨_, rfl⟩
          obtain ⟨B, eB⟩ : ∃ B : Nat, (P.getD t 0).toNat = B := ⟨_, rfl⟩
          rw [eA] at ci; rw [eB] at cj
          have fi := hox.frozenAt t
          have st1 := hox.stored t (.int .u8 (B : Int))
          have cj2 : (wr.setCell ⟨gb, t, none⟩ (.int .u8 (B : Int))).cell? ⟨gb, k - t, none⟩ = some (.int .u8 (B : Int)) := by
            rw [st1.1.cellAt (k - t) (by omega), List.getElem?_set, if_neg (by omega), hxs (k - t) (by omega), q2, eB]
          have fj := st1.1.frozenAt (k - t)
          have st2 := st1.1.stored (k - t) (.int .u8 (A : Int))
          have G1 := hide st1.2; have S2 := hide st2.1; have G2 := hide st2.2
          have EA := hide eA; have EB := hide eB
          have tz : (t : Int) < (k : Int) - (t : Int) := by omega
          have ej : (k : Int) - (t : Int) = ((k - t : Nat) : Int) := by omega
          clear q1 q2 st1 st2 hxs hox eA eB
          go_wp2_with fail
          go_roundg (k + 1 - (t + 1))
          case measure => omega
          case rel =>
            refine ⟨t + 1, _, rfl, by go_num, by congr 1; omega, by omega, unhide S2, ?_, ?_⟩
            · intro p hp
              have hlen : xs.length = k + 1 := by have := (unhide S2).1; simp at this; omega
              rw [turnB_next htk hp, List.getElem?_set, List.length_set, List.getElem?_set]
              by_cases h1 : p = k - t
              · rw [if_pos h1.symm, if_pos (by omega), if_pos h1, unhide EA]
              · rw [if_neg (fun e => h1 e.symm), if_neg h1]
                by_cases h2 : p = t
                · rw [if_pos h2.symm, if_pos (by omega), if_pos h2, unhide EB]
                · rw [if_neg (fun e => h2 e.symm), if_neg h2]
                  exact unhide HXS p hp
            · exact ((unhide HBX).setCell hgb _).setCell hgb _
        · have tz : (k : Int) - (t : Int) ≤ (t : Int) := by omega
          have hend : xs = bcells P := by
            apply List.ext_getElem?
            intro p
            rcases Nat.lt_or_ge k p with hp | hp
            · rw [List.getElem?_eq_none (by have := hox.1; omega), List.getElem?_eq_none (by rw [bcells_len]; omega)]
            · rw [hxs p hp, turnB_end htk ht hp]
              unfold bcells
              rw [List.getElem?_map, List.getElem?_eq_getElem (by omega), List.getD_eq_getElem?_getD, List.getElem?_eq_getElem (by omega)]
              rfl
          rw [hend] at hox
          have hcv := run_string_of hox (by omega) hPl
          clear hxs hox hend
          go_wp2_with fail
          go_ret
          refine ⟨?_, unhide HBX⟩
          rw [← unhide HPD, eP]
          rfl
    · have hl0 : (0 : Int) < (l : Int) := by omega
      have hVp : 0 < V := by
        have := val_pos (unhide HWD) (unhide HNM) (by omega)
        have h2 := unhide HVAL
        omega
      go_wp2_with fail
      refine (small_any _ l g 10 (by decide) (by decide) (by omega) _ (unhide HSL) (unhide HWD)).mono ?_
      rintro e w2 ⟨v2, l2, g2, rfl, s2, d2, m2, e2, k2⟩
      rw [unhide HVAL] at e2 ⊢
      obtain ⟨d, ed⟩ : ∃ d, V % 10 = d := ⟨_, rfl⟩
      have ed' : (V : Int) % 10 = (d : Int) := by omega
      rw [ed']
      have hd : d < 10 := by omega
      have e2' : val g2 l2 = ((V / 10 : Nat) : Int) := by omega
      have hl2 : l2 ≤ 100 := len_le d2 m2 (by
        have a := (val_bd (unhide HWD)).2
        rw [unhide HVAL] at a
        have c : (4294967296 : Int) ^ l ≤ 4294967296 ^ 100 := by rw [pow32, pow32]; exact pow_le_two (by omega)
        rw [e2']
        omega)
      have S2 := hide s2; have D2 := hide d2; have M2 := hide m2; have E2 := hide e2'
      have OWN2 := hide (show w2.ownsRow w.heap.size 5 1 (.slice bo i cv) i (bcells (padD i X).reverse) from by
        refine hown.kept (row := none) ⟨k2.os, k2.tape, k2.output, k2.size, fun k hk _ => k2.block k hk⟩ ?_
        cases h : (Value.slice bo i cv).ownBlock <;> simp)
      have BL2 := hide (below_two (unhide HBL) k2 (unhide HBL).size)
      have hsize2 := (unhide BL2).size
      obtain ⟨vo2, cap2, rfl, -, -, -⟩ := s2.view
      have ED := hide ed
      clear s2 d2 m2 e2 e2' k2 hown ed ed'
      go_wp2_with (first
        | (at_builtin; refine wpList_append_own _ rfl _ _ 40 rfl w.heap.size 5 i0 (.int .u8 0) 1 1 Tryd.underlying40 hi hz0 hz1 hz2 rfl (by decide) _ _ _ rfl ((unhide OWN2).alloc _) ⟨w2.heap.size, 0, none⟩ 1 1 [.int .u8 (48 + (d : Int))] rfl rfl (cell_one_new _ _ _) (fun x hx => by simp at hx; subst hx; rfl) (by unfold maxLen; omega) (by omega) (by simp; omega) ?_; intro v' w3 hown' hgrow3 hnil3))
      go_roundg (V / 10)
      case measure => omega
      case rel =>
        obtain ⟨ao', cv', hv'⟩ := own_slice hown'
        have hob : i = 0 → (Value.slice bo i cv).ownBlock = none := fun h => by rw [unhide HBO h]; rfl
        refine ⟨i + 1, V / 10, l2, g2, ao', cv', rfl, ?_, hv', fun h => absurd h (by omega), ?_, ?_, unhide D2, unhide M2, unhide E2, hl2, ?_, ?_⟩
        · rw [unhide HV, Nat.div_div_eq_div_mul, ← Nat.pow_succ]
        · rw [padD_front, List.reverse_cons, bcells_app, ← unhide HV, unhide ED]
          show w3.ownsRow _ _ _ _ _ (_ ++ [.int .u8 ((dgt d).toNat : Int)])
          rw [dgt_toNat hd]
          exact hown'
        · exact sl_grown ((unhide S2).below (below_new w2 _)) ((unhide OWN2).alloc _) hob hgrow3
        · intro j hj
          rcases Nat.lt_or_ge j i with h | h
          · exact unhide HALL j h
          · obtain rfl : j = i := by omega
            rw [← unhide HV]; omega
        · exact grown_below ((unhide BL2).alloc hsize2 _) ((unhide OWN2).alloc _) (by simp; omega) hgrow3

theorem string_any (b : Nat) (x : Int) (x1 : 1 ≤ x) (w : World) (hx : Num w b x) (dx : Bd x) :
    Calls Tryd.prog 15 #[.pointer (some ⟨b, 0, none⟩)] w fun e w' =>
      e = .returned (.string ⟨(decDigits x.toNat).toArray⟩) ∧ Below w.heap.size w w' := by
  have HX := hide hx; have DX := hide dx
  clear hx dx
  go_enter Tryd.func15, Tryd.ntmps15
  go_wp2_with fail
  refine (bigText_any b x x1 _ (unhide HX) (unhide DX)).mono ?_
  rintro e w1 ⟨rfl, k1⟩
  have K1 := hide k1
  clear k1
  go_wp2_with fail
  go_ret
  exact ⟨rfl, unhide K1⟩
theorem bigText_zero (b : Nat) (w : World) (hx : Num w b 0) :
    Calls Tryd.prog 29 #[.pointer (some ⟨b, 0, none⟩), .int .i64 10] w fun e w' => e = .returned (.string ⟨(decDigits 0).toArray⟩) ∧ w' = w := by
  obtain ⟨xn, xv, n, fa, hx1, hx2, hx3, hx4, hx5, hx6⟩ := hx
  have hn0 : n = 0 := by
    rcases Nat.eq_zero_or_pos n with h | h
    · exact h
    · have := val_pos hx3 hx4 (by omega)
      cases xn
      · have e : 0 = val fa n := hx5
        omega
      · have e : 0 = -val fa n := hx5
        omega
  subst hn0
  have c2 := hx1.cell1
  obtain ⟨ao, capa, rfl, -, -, -⟩ := hx2.view
  have ed : decDigits 0 = [48] := by rw [decDigits, dif_pos (by decide)]; rfl
  rw [ed]
  clear hx1 hx2 hx3 hx4 hx5 hx6 ed
  go_enter Tryd.func29, Tryd.ntmps29
  go_wp2_with fail
  go_ret
  exact ⟨rfl, rfl⟩
theorem string_zero (b : Nat) (w : World) (hx : Num w b 0) :
    Calls Tryd.prog 15 #[.pointer (some ⟨b, 0, none⟩)] w fun e w' => e = .returned (.string ⟨(decDigits 0).toArray⟩) ∧ w' = w := by
  have HX := hide hx
  clear hx
  go_enter Tryd.func15, Tryd.ntmps15
  go_wp2_with fail
  refine (bigText_zero b _ (unhide HX)).mono ?_
  rintro e w1 ⟨rfl, rfl⟩
  go_wp2_with fail
  go_ret
  exact ⟨rfl, rfl⟩

end Go.Proofs.YtbgljhjimcoiiaaDoor
