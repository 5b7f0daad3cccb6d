/- Contract of fix's readFraction: the walk. -/
import Derived.Test.YtbgljhjimcoiiabDoorStrRead3
import Derived.Lib.ItoaMem
namespace Go.Proofs.YtbgljhjimcoiiabDoor
open Go.RowKit Go.Lib

theorem below_frozen (w : World) (o : Obj) : Below w.heap.size w (w.alloc o) := (Below.refl _ _).alloc (Nat.le_refl _) _

set_option maxHeartbeats 2000000 in
set_option maxRecDepth 100000 in
theorem readFraction_any (l : List UInt8) (neg : Bool) (hl : l.length ≤ 60) (hd : l.all isD = true) (w : World) :
    Calls Tryd.prog 12 #[.string ⟨l.toArray⟩, .bool neg] w fun e w' => e = .returned (.int .u64 (fracV l neg : Int)) ∧ Below w.heap.size w w' := by
  have hS := size_mk l
  obtain ⟨n, en⟩ : ∃ n, l.length = n := ⟨_, rfl⟩
  rw [en] at hS hl
  have hcv := fun wx => run_bytes_of_string (P := Tryd.prog) wx 9 50 5 ⟨l.toArray⟩ Tryd.underlying9 Tryd.underlying50 Tryd.underlying5
  rw [hS] at hcv
  obtain ⟨F, eF⟩ : ∃ F, decV l = F := ⟨_, rfl⟩
  obtain ⟨T, eT⟩ : ∃ T, 10 ^ n = T := ⟨_, rfl⟩
  have hT : 0 < T := by rw [← eT]; exact Nat.pow_pos (by decide)
  have FV := hide (show fracV l neg = F * 2 ^ 32 / T + (if neg = true ∧ F * 2 ^ 33 % T = 0 then 0 else F * 2 ^ 33 / T - 2 * (F * 2 ^ 32 / T)) from by
    unfold fracV; rw [en, eF, eT])
  have hF0 : lowV (digOf l) n n = F := by rw [← eF, decV_low l, en]
  have hFT : F < T := by rw [← hF0, ← eT]; exact lowV_lt (digOf_lt hd) n
  obtain ⟨cap, ecap⟩ : ∃ cap, grownCap w n 0 5 = cap := ⟨_, rfl⟩
  obtain ⟨cells, ecl⟩ : ∃ cells, bytesRow ⟨l.toArray⟩ cap = cells := ⟨_, rfl⟩
  have hcell : ∀ j, j < n → cells[j]? = some (.int .u8 ((48 + digOf l j : Nat) : Int)) := by
    intro j hj
    rw [← ecl]
    unfold bytesRow
    have hj2 : j < l.length := by omega
    rw [Array.getElem?_append_left (by simp; omega)]
    have h1 := (isD_iff l[j]).1 (List.all_eq_true.1 hd _ (List.getElem_mem hj2))
    have h2 : 48 + digOf l j = (l[j]).toNat := by
      unfold digOf
      rw [List.getD_eq_getElem?_getD, List.getElem?_eq_getElem hj2]
      show 48 + ((l[j]).toNat - 48) = _
      omega
    rw [h2]
    simp [hj2]
  have hcsz : n ≤ cells.size := by
    rw [← ecl]
    unfold bytesRow
    simp
    omega
  have hcv0 : (convert 9 50 (.string ⟨l.toArray⟩)).run Tryd.prog w = .ok (.slice (some ⟨w.heap.size, 0, none⟩) n cap) (w.drew.alloc (.cells cells 5 (cells.size, cells.size + 1))) := by
    rw [hcv w, ecap, ecl]
  have DG0 := hide (show Dg (((w.alloc (.cells cells 5 (cells.size, cells.size + 1))).alloc (.cells #[.slice (some ⟨w.heap.size, 0, none⟩) n cap] 50)).drew) w.heap.size n (digOf l) from by
    refine ⟨fun j hj => ?_, fun j hj => ?_, digOf_lt hd⟩
    · show ((w.alloc (.cells cells 5 (cells.size, cells.size + 1))).alloc (.cells #[.slice (some ⟨w.heap.size, 0, none⟩) n cap] 50)).cell? ⟨w.heap.size, j, none⟩ = _
      rw [World.cell?_alloc_old _ _ _ (by simp)]
      have : (w.alloc (.cells cells 5 (cells.size, cells.size + 1))).cell? ⟨w.heap.size, j, none⟩ = cells[j]? := by
        have e1 : (w.alloc (.cells cells 5 (cells.size, cells.size + 1))).heap[w.heap.size]? = some (.cells cells 5 (cells.size, cells.size + 1)) := by
          show (w.heap.push _)[w.heap.size]? = _
          rw [Array.getElem?_push_size]
        unfold World.cell?
        simp only [e1]
        rfl
      rw [this]
      exact hcell j hj
    · show ((w.alloc (.cells cells 5 (cells.size, cells.size + 1))).alloc (.cells #[.slice (some ⟨w.heap.size, 0, none⟩) n cap] 50)).frozen? ⟨w.heap.size, j, none⟩ = false
      have e1 : ((w.alloc (.cells cells 5 (cells.size, cells.size + 1))).alloc (.cells #[.slice (some ⟨w.heap.size, 0, none⟩) n cap] 50)).heap[w.heap.size]? = some (.cells cells 5 (cells.size, cells.size + 1)) := by
        show ((w.heap.push _).push _)[w.heap.size]? = _
        rw [Array.getElem?_push, if_neg (by simp), Array.getElem?_push_size]
      unfold World.frozen?
      rw [e1]
      simp
      omega)
  have CB0 := hide (show (((w.alloc (.cells cells 5 (cells.size, cells.size + 1))).alloc (.cells #[.slice (some ⟨w.heap.size, 0, none⟩) n cap] 50)).drew).cell? ⟨w.heap.size + 1, 0, none⟩ = some (.slice (some ⟨w.heap.size, 0, none⟩) n cap) from by
    have h := World.cell?_alloc_new (w.alloc (.cells cells 5 (cells.size, cells.size + 1))) #[.slice (some ⟨w.heap.size, 0, none⟩) n cap] 50 0
    have e : (w.alloc (.cells cells 5 (cells.size, cells.size + 1))).heap.size = w.heap.size + 1 := by simp
    rw [e] at h
    exact h)
  have BL0 := hide (show Below w.heap.size w (((w.alloc (.cells cells 5 (cells.size, cells.size + 1))).alloc (.cells #[.slice (some ⟨w.heap.size, 0, none⟩) n cap] 50)).drew) from
    ((below_frozen w _).alloc (by simp) _).drew)
  have SZ0 := hide (show w.heap.size + 1 < (((w.alloc (.cells cells 5 (cells.size, cells.size + 1))).alloc (.cells #[.slice (some ⟨w.heap.size, 0, none⟩) n cap] 50)).drew).heap.size from by
    show w.heap.size + 1 < ((w.alloc (.cells cells 5 (cells.size, cells.size + 1))).alloc (.cells #[.slice (some ⟨w.heap.size, 0, none⟩) n cap] 50)).heap.size
    simp)
  obtain ⟨S, eS⟩ : ∃ S : ByteArray, (⟨l.toArray⟩ : ByteArray) = S := ⟨_, rfl⟩
  rw [eS] at hS hcv0 ⊢
  have HF0 := hide hF0; have ET := hide eT
  clear en eS hd hcv ecap ecl hcell hcsz eF eT hF0
  go_enter Tryd.func12, Tryd.ntmps12
  go_wp2_with fail
  go_loopg [7, 13] 32 (fun gk ns ks wx => ∃ (t N : Nat) (e : Nat → Nat), gk = 32 - t ∧ t ≤ 32 ∧ ks = .int .i64 (t : Int) ∧ ns = .int .u64 (N : Int) ∧ N = F * 2 ^ t / T ∧ Dg wx w.heap.size n e ∧ lowV e n n = F * 2 ^ t % T ∧ wx.cell? ⟨w.heap.size + 1, 0, none⟩ = some (.slice (some ⟨w.heap.size, 0, none⟩) n cap) ∧ w.heap.size + 1 < wx.heap.size ∧ Below w.heap.size w wx)
  case atStart => exact ⟨0, 0, digOf l, rfl, Nat.zero_le _, rfl, rfl, by rw [Nat.pow_zero, Nat.mul_one, Nat.div_eq_of_lt hFT], unhide DG0, by rw [Nat.pow_zero, Nat.mul_one, Nat.mod_eq_of_lt hFT]; exact unhide HF0, unhide CB0, unhide SZ0, unhide BL0⟩
  case round =>
    obtain ⟨t, N, e, rfl, ht, rfl, rfl, hN, hDg, hlow, hcb, hsz, hbl⟩ := hrel
    have hNb : N < 4611686018427387904 := by
      have h1 : F * 2 ^ t / T < 2 ^ t := by
        rw [Nat.div_lt_iff_lt_mul hT, Nat.mul_comm]
        exact Nat.mul_lt_mul_of_pos_left hFT (Nat.pow_pos (by decide))
      have h2 : 2 ^ t ≤ 2 ^ 32 := Nat.pow_le_pow_right (by decide) ht
      have e3 : (2 : Nat) ^ 32 = 4294967296 := by decide
      rw [← hN] at h1
      omega
    have HN := hide hN; have HDG := hide hDg; have HLOW := hide hlow; have HCB := hide hcb; have HSZ := hide hsz; have HBL := hide hbl
    clear hN hDg hlow hcb hsz hbl
    by_cases h32 : t < 32
    · have hti : (t : Int) < 32 := by omega
      go_wp2_with fail
      refine (double_any (w.heap.size + 1) w.heap.size n cap e wr hl (unhide HCB) (by omega) (unhide HDG)).mono ?_
      rintro _ w1 ⟨c, e', rfl, hc1, d1, d2, d3, d4⟩
      have hs := half_step hT (unhide HN) (unhide HLOW) (D' := lowV e' n n) (c := c) (by rw [← unhide ET]; exact d2) (by rw [← unhide ET]; exact lowV_lt d1.dig n)
      have eo := or_low N c hNb hc1
      have D1 := hide d1; have HS := hide hs
      have CB1 := hide ((d3 ⟨w.heap.size + 1, 0, none⟩ (by simp)).trans (unhide HCB))
      have dB := d4 w.heap.size (Nat.le_refl _) (unhide HBL).size
      have BL1 := hide ((unhide HBL).trans dB)
      have SZ1 := hide (Nat.lt_of_lt_of_le (unhide HSZ) dB.size)
      clear d1 d2 d3 d4 hs dB
      go_wp2_with fail
      go_roundg (32 - (t + 1))
      case measure => omega
      case rel => exact ⟨t + 1, N * 2 + c, e', rfl, by omega, by go_num, by go_num, (unhide HS).1, unhide D1, (unhide HS).2, unhide CB1, unhide SZ1, unhide BL1⟩
    · obtain rfl : t = 32 := by omega
      go_wp2_with fail
      refine (double_any (w.heap.size + 1) w.heap.size n cap e wr hl (unhide HCB) (by omega) (unhide HDG)).mono ?_
      rintro _ w1 ⟨c, e', rfl, hc1, d1, d2, d3, d4⟩
      have hs := half_step hT (unhide HN) (unhide HLOW) (D' := lowV e' n n) (c := c) (by rw [← unhide ET]; exact d2) (by rw [← unhide ET]; exact lowV_lt d1.dig n)
      have HS := hide hs
      have cb1 := (d3 ⟨w.heap.size + 1, 0, none⟩ (by simp)).trans (unhide HCB)
      have dB := d4 w.heap.size (Nat.le_refl _) (unhide HBL).size
      have BL1 := hide ((unhide HBL).trans dB)
      have hst : (convert 50 9 (.slice (some ⟨w.heap.size, 0, none⟩) n cap)).run Tryd.prog w1 = .ok (.string ⟨(digB e' n).toArray⟩) w1 := by
        have h := run_convert_bytes_back (P := Tryd.prog) w1 50 9 5 ⟨w.heap.size, 0, none⟩ cap (digB e' n) Tryd.underlying50 Tryd.underlying5 Tryd.underlying9 (fun j hj => by
          rw [digB_at d1.dig hj, Lib.add_plain, Nat.zero_add]
          exact d1.cell j (by rw [digB_length] at hj; exact hj))
        rw [digB_length] at h
        exact h
      have hemp : (⟨(Lib.trimB (digB e' n) 48).toArray⟩ : ByteArray).toList.isEmpty = decide (lowV e' n n = 0) := by
        rw [Lib.toList_data]
        show (Lib.trimB (digB e' n) 48).isEmpty = _
        have := trim_digits (n := n) d1.dig
        by_cases h : lowV e' n n = 0
        · rw [decide_eq_true h, this.2 h]; rfl
        · rw [decide_eq_false h]
          cases h2 : Lib.trimB (digB e' n) 48 with
          | nil => exact absurd (this.1 h2) h
          | cons _ _ => rfl
      have hsz2 : (⟨(digB e' n).toArray⟩ : ByteArray).size ≤ 9223372036854775807 := by rw [size_mk, digB_length]; omega
      have htr := fun wx => Tryd.strings_Trim_one ⟨(digB e' n).toArray⟩ 48 (by decide) wx hsz2
      have etr : Lib.trimB (⟨(digB e' n).toArray⟩ : ByteArray).data.toList 48 = Lib.trimB (digB e' n) 48 := rfl
      rw [etr] at htr
      obtain ⟨S2, eS2⟩ : ∃ S2 : ByteArray, (⟨(digB e' n).toArray⟩ : ByteArray) = S2 := ⟨_, rfl⟩
      rw [eS2] at hst htr
      obtain ⟨S3, eS3⟩ : ∃ S3 : ByteArray, (⟨(Lib.trimB (digB e' n) 48).toArray⟩ : ByteArray) = S3 := ⟨_, rfl⟩
      rw [eS3] at htr hemp
      have HTR := hide htr
      obtain ⟨D, eD⟩ : ∃ D, lowV e' n n = D := ⟨_, rfl⟩
      rw [eD] at hemp HS
      have hcN : (N : Int) + (c : Int) < 18446744073709551616 := by omega
      clear d1 d2 d3 d4 hs dB htr etr eS2 eS3 hsz2 eD
      go_wp2_with fail
      refine (unhide HTR _).mono ?_
      rintro _ w2 ⟨rfl, hw2⟩
      have BL2 := hide (show Below w.heap.size w w2 from by
        rcases hw2 with rfl | rfl
        · exact unhide BL1
        · exact (unhide BL1).drew)
      have RES := hide (show fracV l neg = if neg = true ∧ D = 0 then N else N + c from by
        have h1 := unhide HS
        have h2 := unhide HN
        rw [unhide FV, ← h2, ← h1.1, ← h1.2]
        split
        · omega
        · omega)
      clear hw2 cb1 hst
      cases neg
      · go_wp2_with fail
        go_ret
        refine ⟨?_, unhide BL2⟩
        rw [unhide RES, if_neg (by simp)]
        rfl
      · by_cases hD0 : D = 0
        · rw [decide_eq_true hD0] at hemp
          have RES2 := hide (show fracV l true = N from by rw [unhide RES, if_pos ⟨rfl, hD0⟩])
          clear hD0
          go_wp2_with fail
          go_ret
          refine ⟨?_, unhide BL2⟩
          rw [unhide RES2]
          rfl
        · rw [decide_eq_false hD0] at hemp
          have RES2 := hide (show fracV l true = N + c from by rw [unhide RES, if_neg (fun h => hD0 h.2)])
          clear hD0
          go_wp2_with fail
          go_ret
          refine ⟨?_, unhide BL2⟩
          rw [unhide RES2]
          rfl

end Go.Proofs.YtbgljhjimcoiiabDoor
