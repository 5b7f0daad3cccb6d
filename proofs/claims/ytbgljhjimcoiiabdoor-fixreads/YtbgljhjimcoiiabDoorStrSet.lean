/- Contract of the reference's SetString at base 10, for digits. -/
import Derived.Test.YtbgljhjimcoiiabDoorStrRead5
import Derived.Test.YtbgljhjimcoiiabDoorBigMul
namespace Go.Proofs.YtbgljhjimcoiiabDoor
open Go.RowKit Go.Lib

theorem decV_lt {l : List UInt8} (h : l.all isD = true) : decV l < 10 ^ l.length := by rw [decV_low]; exact lowV_lt (digOf_lt h) _
theorem all_take {l : List UInt8} (h : l.all isD = true) (k : Nat) : (l.take k).all isD = true := by
  rw [List.all_eq_true] at h ⊢
  exact fun c hc => h c (List.mem_of_mem_take hc)

set_option maxHeartbeats 4000000 in
set_option maxRecDepth 100000 in
theorem setString_any (z : Nat) (l : List UInt8) (hl : l.length ≤ 60) (hd : l.all isD = true) (hne : l ≠ []) (s0 : Bool) (v0 : Value) (w : World) (hz : IntAt w z (.bool s0) v0) :
    Calls Tryd.prog 14 #[.pointer (some ⟨z, 0, none⟩), .string ⟨l.toArray⟩, .int .i64 10] w fun e w' => e = .returned (.tuple #[.pointer (some ⟨z, 0, none⟩), .bool true]) ∧ Num w' z (decV l : Int) ∧ Kept z w w' := by
  have hS := size_mk l
  have HAT := hide (run_at l)
  have HD := hide hd; have HZ := hide hz
  obtain ⟨n, en⟩ : ∃ n, l.length = n := ⟨_, rfl⟩
  have hn0 : 0 < n := by rw [← en]; exact List.length_pos_iff.2 hne
  rw [en] at hS hl
  have hix0 : ∃ c : Nat, 48 ≤ c ∧ c ≤ 57 ∧ ∀ wx : World, (Instr.index 9 (.string ⟨l.toArray⟩) (.int .i64 0)).run Tryd.prog wx = .ok (.int .u8 (c : Int)) wx := by
    have h0 : 0 < l.length := by omega
    have hdd := (isD_iff l[0]).1 (List.all_eq_true.1 hd _ (List.getElem_mem h0))
    exact ⟨_, hdd.1, hdd.2, fun wx => run_at l 0 h0 wx⟩
  obtain ⟨c0, k1, k2, hix0⟩ := hix0
  obtain ⟨S, eS⟩ : ∃ S : ByteArray, (⟨l.toArray⟩ : ByteArray) = S := ⟨_, rfl⟩
  rw [eS] at hS hix0 ⊢
  have EN := hide en; have ES := hide eS
  have b1 : ((c0 : Int) == 45) = false := beq_eq_false_iff_ne.2 (by omega)
  have b2 : ((c0 : Int) == 43) = false := beq_eq_false_iff_ne.2 (by omega)
  have b3 : ((n : Int) == 0) = false := beq_eq_false_iff_ne.2 (by omega)
  have b4 : decide ((0 : Int) < (n : Int)) = true := decide_eq_true (by omega)
  clear en eS hd hz hne
  go_enter Tryd.func14, Tryd.ntmps14
  go_wp2_with fail
  clear hix0 b1 b2 b3 b4 k1 k2
  go_loopg [9, 10, 11, 12] n (fun gk rs is _ _ wx => ∃ (k m : Nat) (g : Nat → Int), gk = n - k ∧ k ≤ n ∧ is = .int .i64 (k : Int) ∧ Sl wx rs m g ∧ Wd m g ∧ Nm m g ∧ val g m = ((decV (l.take k) : Nat) : Int) ∧ Below w.heap.size w wx)
  case atStart => exact ⟨0, 0, fun _ => 0, rfl, Nat.zero_le _, rfl, Or.inl ⟨rfl, rfl⟩, fun i hi => absurd hi (by omega), Or.inl rfl, rfl, Below.refl _ _⟩
  case round =>
    obtain ⟨k, m, g, rfl, hk, rfl, hsl, hwd, hnm, hval, hbl⟩ := hrel
    have hm : m ≤ 10 := by
      refine len_le hwd hnm ?_
      rw [hval]
      have h1 := decV_lt (all_take (unhide HD) k)
      have h2 : 10 ^ (l.take k).length ≤ 10 ^ 60 := Nat.pow_le_pow_right (by decide) (by rw [List.length_take]; have := unhide EN; omega)
      have h3 : ((10 ^ 60 : Nat) : Int) < 4294967296 ^ 10 := by decide
      omega
    have HSL := hide hsl; have HWD := hide hwd; have HNM := hide hnm; have HVAL := hide hval; have HBL := hide hbl
    obtain ⟨ro, capr, rfl, -, -, -⟩ := hsl.view
    clear hsl hwd hnm hval hbl
    by_cases hkn : k < n
    · have hkl : k < l.length := by rw [unhide EN]; exact hkn
      have hix := fun wx => unhide HAT k hkl wx
      rw [unhide ES] at hix
      have hdd := (isD_iff l[k]).1 (List.all_eq_true.1 (unhide HD) _ (List.getElem_mem hkl))
      obtain ⟨c, ec⟩ : ∃ c : Nat, (l[k]).toNat = c := ⟨_, rfl⟩
      rw [ec] at hix hdd
      obtain ⟨hd1, hd2⟩ := hdd
      obtain ⟨d, rfl⟩ : ∃ d, c = d + 48 := ⟨c - 48, by omega⟩
      have HNX := hide (show decV (l.take (k + 1)) = decV (l.take k) * 10 + d from by rw [take_more hkl, decV_snoc, ec]; omega)
      have hki : (k : Int) < (n : Int) := by omega
      have q1 : decide (48 ≤ (d : Int) + 48) = true := decide_eq_true (by omega)
      have q2 : decide ((d : Int) + 48 ≤ 57) = true := decide_eq_true (by omega)
      clear ec
      go_wp2_with fail
      refine (words_any 10 (by decide) (by decide) _).mono ?_
      rintro e w1 ⟨v1, m1, f1, rfl, s1, d1, n1, e1, b1⟩
      have S1 := hide s1; have D1 := hide d1; have E1 := hide e1; have B1 := hide b1
      have hm1 : m1 ≤ 1 := len_le d1 n1 (by rw [e1]; decide)
      clear s1 d1 n1 e1 b1
      go_wp2_with fail
      refine (mul_words _ _ m m1 g f1 (by omega) (by omega) _ ((unhide HSL).below (unhide B1)) (unhide S1) (unhide HWD) (unhide D1)).mono ?_
      rintro e w2 ⟨v2, m2, f2, rfl, s2, d2, n2, e2, b2⟩
      rw [unhide HVAL, unhide E1] at e2
      have S2 := hide s2; have D2 := hide d2; have E2 := hide e2; have B2 := hide b2
      have hm2 : m2 ≤ 20 := by
        refine len_le d2 n2 ?_
        rw [e2]
        have h1 := decV_lt (all_take (unhide HD) k)
        have h2 : 10 ^ (l.take k).length ≤ 10 ^ 60 := Nat.pow_le_pow_right (by decide) (by rw [List.length_take]; have := unhide EN; omega)
        have h3 : ((10 ^ 60 : Nat) : Int) * 10 < 4294967296 ^ 20 := by decide
        omega
      clear s2 d2 n2 e2 b2
      go_wp2_with fail
      refine (words_any (d : Int) (by omega) (by omega) _).mono ?_
      rintro e w3 ⟨v3, m3, f3, rfl, s3, d3, n3, e3, b3⟩
      have S3 := hide s3; have D3 := hide d3; have E3 := hide e3; have B3 := hide b3
      have hm3 : m3 ≤ 1 := len_le d3 n3 (by rw [e3]; show (d : Int) < 4294967296; omega)
      clear s3 d3 n3 e3 b3
      go_wp2_with fail
      refine (add_words _ _ m2 m3 f2 f3 (by omega) (by omega) _ ((unhide S2).below (unhide B3)) (unhide S3) (unhide D2) (unhide D3)).mono ?_
      rintro e w4 ⟨v4, m4, f4, rfl, s4, d4, n4, e4, -, b4⟩
      rw [unhide E2, unhide E3] at e4
      have R4 := hide (show Sl w4 v4 m4 f4 ∧ Wd m4 f4 ∧ Nm m4 f4 ∧ val f4 m4 = ((decV (l.take (k + 1)) : Nat) : Int) ∧ Below w.heap.size w w4 from by
        refine ⟨s4, d4, n4, ?_, ?_⟩
        · rw [e4, unhide HNX]; omega
        · have t1 := below_two (unhide HBL) (unhide B1) (unhide HBL).size
          have t2 := below_two t1 (unhide B2) t1.size
          have t3 := below_two t2 (unhide B3) t2.size
          exact below_two t3 b4 t3.size)
      clear s4 d4 n4 e4 b4
      go_wp2_with fail
      go_roundg (n - (k + 1))
      case measure => omega
      case rel => exact ⟨k + 1, m4, f4, rfl, by omega, by go_num, unhide R4⟩
    · obtain rfl : k = n := by omega
      have hki : ¬ (k : Int) < (k : Int) := by omega
      go_wp2_with fail
      refine (give_any z _ _ _ _ _ _ _ (IntAt.below (unhide HZ) (unhide HBL))).mono ?_
      rintro e w2 ⟨rfl, g1, g2⟩
      have F := hide (show Num w2 z (decV l : Int) ∧ Kept z w w2 from by
        have hs := (unhide HSL).other g2 (IntAt.below (unhide HZ) (unhide HBL))
        have hnum := num_of_give g1 hs (unhide HWD) (unhide HNM)
        rw [unhide HVAL, List.take_of_length_le (by rw [unhide EN]; exact Nat.le_refl _)] at hnum
        exact ⟨hnum, (Kept.of_below (unhide HBL)).trans g2 (Or.inl rfl)⟩)
      clear g1 g2
      go_wp2_with fail
      go_ret2
      exact ⟨rfl, unhide F⟩

end Go.Proofs.YtbgljhjimcoiiabDoor
