/- Joined: BigSub, BigSum. -/
import Derived.Test.YthimcecbgpamdaaGreatNear154
import Derived.WalkSmall
namespace Go.Proofs.YthimcecbgpamdaaGreat
open Go.RowKit

/-- One word of a difference. -/
theorem sub_step {fa fb g : Nat → Int} {k : Nat} {c t x c' : Int} (h : val g k - c * 4294967296 ^ k = val fa k - val fb k) (ht : t = fa k - c - fb k) (hx : t = x - c' * 4294967296) :
    val (upd g k x) (k + 1) - c' * 4294967296 ^ (k + 1) = val fa (k + 1) - val fb (k + 1) := by
  rw [val_upd]
  show _ = val fa k + fa k * 4294967296 ^ k - (val fb k + fb k * 4294967296 ^ k)
  have e : t * 4294967296 ^ k = fa k * 4294967296 ^ k - c * 4294967296 ^ k - fb k * 4294967296 ^ k := by rw [ht, Int.sub_mul, Int.sub_mul]
  have e2 : x * 4294967296 ^ k - c' * 4294967296 ^ (k + 1) = t * 4294967296 ^ k := by
    rw [Int.pow_succ, Int.mul_comm (4294967296 ^ k) 4294967296, ← Int.mul_assoc, ← Int.sub_mul, hx]
  omega

set_option maxHeartbeats 1000000 in
theorem sub_core (ao bo : Option Addr) (n m capa capb : Nat) (fa fb : Nat → Int) (hmn : m ≤ n) (hn : n ≤ 549755813888) (w : World)
    (ha : Has w ao n fa) (hb : Has w bo m fb) (wa : Wd n fa) (wb : Wd m fb) (hge : val fb m ≤ val fa n) :
    Calls Tryz.prog 139 #[.slice ao n capa, .slice bo m capb] w fun e w' =>
      ∃ (v : Value) (l : Nat) (f : Nat → Int), e = .returned v ∧ Sl w' v l f ∧ Wd l f ∧ Nm l f ∧ val f l = val fa n - val fb m ∧ l ≤ n ∧ Below w.heap.size w w' := by
  have hmk := fun wx => run_make_row' (P := Tryz.prog) 168 200 (.int .u32 0) 4 Tryz.underlying168 Tryz.infoU32 rfl .i64 .i64 n (by omega) (by omega) wx
  have HA := hide ha; have HB := hide hb; have WA := hide wa; have WB := hide wb; have HG := hide hge
  clear ha hb wa wb hge
  go_enter Tryz.func139, Tryz.ntmps139
  go_wp2_with fail
  clear hmk
  go_loopw [6, 7] (fun cs is wr => ∃ (k : Nat) (c : Int) (g : Nat → Int), is = .int .i64 k ∧ cs = .int .u64 c ∧ k ≤ n ∧ 0 ≤ c ∧ c ≤ 1 ∧ Own wr w.heap.size n g ∧ Wd k g ∧ val g k - c * 4294967296 ^ k = val fa k - val (padF m fb) k ∧ Below w.heap.size w wr)
    (fun _ is _ => n - (intOf is).toNat)
  case atStart => exact ⟨0, 0, _, rfl, rfl, Nat.zero_le _, Int.le_refl _, by decide, own_made w n, fun i hi => absurd hi (by omega), rfl, below_new w _⟩
  case round =>
    obtain ⟨k, c, g, rfl, rfl, hk, c0, c1, hO, hW, hv, hBl⟩ := hrel
    have HO := hide hO; have HW := hide hW; have HV := hide hv; have HBl := hide hBl
    clear hO hW hv hBl
    by_cases hkn : k < n
    · obtain ⟨ba, rfl, hba, hra⟩ := Has.below' (unhide HA) (unhide HBl) (by omega)
      have ca := hra k hkn
      have co := (unhide HO).cell hkn
      have fo := (unhide HO).free k
      obtain ⟨a0, a1⟩ := unhide WA k hkn
      clear hra
      by_cases hkm : k < m
      · obtain ⟨bb, rfl, hbb, hrb⟩ := Has.below' (unhide HB) (unhide HBl) (by omega)
        have cb := hrb k hkm
        obtain ⟨b0, b1⟩ := unhide WB k hkm
        clear hrb
        obtain ⟨d, ed⟩ : ∃ d, IntKind.u64.wrap (IntKind.u64.wrap (fa k - c) - fb k) = d := ⟨_, rfl⟩
        have hd : d = (fa k - c - fb k) % 18446744073709551616 := by rw [← ed]; simp only [IntKind.wrap_u64]; omega
        have d0 : 0 ≤ d := by omega
        have d1 : d < 18446744073709551616 := by omega
        have d2 : 0 ≤ d / 9223372036854775808 ∧ d / 9223372036854775808 ≤ 1 := by omega
        have HS := hide (sub_step (t := fa k - c - fb k) (x := d % 4294967296) (c' := d / 9223372036854775808) (unhide HV) (by show _ = fa k - c - (if k < m then fb k else 0); rw [if_pos hkm]) (by omega))
        clear hd
        go_wp2_with fail
        go_roundw
        case rel => exact ⟨k + 1, _, _, by go_num, rfl, by omega, d2.1, d2.2, (unhide HO).set k _, (unhide HW).upd (by omega) (by omega), unhide HS, (unhide HBl).setCell (Nat.le_refl _) _⟩
        case measure => simp [intOf]; omega
      · obtain ⟨d, ed⟩ : ∃ d, IntKind.u64.wrap (fa k - c) = d := ⟨_, rfl⟩
        have hd : d = (fa k - c) % 18446744073709551616 := by rw [← ed]; simp only [IntKind.wrap_u64]
        have d0 : 0 ≤ d := by omega
        have d1 : d < 18446744073709551616 := by omega
        have d2 : 0 ≤ d / 9223372036854775808 ∧ d / 9223372036854775808 ≤ 1 := by omega
        have HS := hide (sub_step (t := fa k - c) (x := d % 4294967296) (c' := d / 9223372036854775808) (unhide HV) (by show _ = fa k - c - (if k < m then fb k else 0); rw [if_neg hkm]; omega) (by omega))
        clear hd
        go_wp2_with fail
        go_roundw
        case rel => exact ⟨k + 1, _, _, by go_num, rfl, by omega, d2.1, d2.2, (unhide HO).set k _, (unhide HW).upd (by omega) (by omega), unhide HS, (unhide HBl).setCell (Nat.le_refl _) _⟩
        case measure => simp [intOf]; omega
    · have hkn2 : k = n := by omega
      subst hkn2
      have hval : val g k = val fa k - val fb m := by
        have h1 := unhide HV
        rw [val_pad fb hmn] at h1
        have h2 := val_bd (unhide HW)
        have h3 := unhide HG
        have h4 : c = 0 := by
          rcases (show c = 0 ∨ c = 1 by omega) with h | h
          · exact h
          · subst h; omega
        subst h4; omega
      have HVAL := hide hval
      have HOL := hide (unhide HO).lt
      clear hval
      go_wp2_with fail
      refine (trim_core w.heap.size k k g (Nat.le_refl _) (by omega) _ (unhide HO).row).mono ?_
      rintro e w1 ⟨l, rfl, hl, hz, hnm, rfl⟩
      have F := hide (show Sl w1 (.slice (some ⟨w.heap.size, 0, none⟩) l k) l g ∧ Wd l g ∧ Nm l g ∧ val g l = val fa k - val fb m ∧ l ≤ k ∧ Below w.heap.size w w1 from
        ⟨Or.inr ⟨_, _, rfl, hl, by omega, unhide HOL, (unhide HO).row.less hl⟩, (unhide HW).less hl, hnm, by rw [← val_noughts hl hz]; exact unhide HVAL, hl, unhide HBl⟩)
      clear hz hnm
      go_wp2_with fail
      go_ret
      exact ⟨_, l, _, rfl, unhide F⟩

/-- The difference of two lists of words. -/
theorem sub_words (va vb : Value) (n m : Nat) (fa fb : Nat → Int) (hmn : m ≤ n) (hn : n ≤ 549755813888) (w : World) (ha : Sl w va n fa) (hb : Sl w vb m fb) (wa : Wd n fa) (wb : Wd m fb) (hge : val fb m ≤ val fa n) :
    Calls Tryz.prog 139 #[va, vb] w fun e w' =>
      ∃ (v : Value) (l : Nat) (f : Nat → Int), e = .returned v ∧ Sl w' v l f ∧ Wd l f ∧ Nm l f ∧ val f l = val fa n - val fb m ∧ l ≤ n ∧ Below w.heap.size w w' := by
  obtain ⟨ao, capa, rfl, -, -, ha⟩ := ha.view
  obtain ⟨bo, capb, rfl, -, -, hb⟩ := hb.view
  exact sub_core ao bo n m capa capb fa fb hmn hn w ha hb wa wb hge

/-- The world but for draws. -/
def Drw (w w' : World) : Prop := ∃ q, w' = w.drewN q
theorem Drw.refl (w : World) : Drw w w := ⟨0, rfl⟩
theorem Drw.drew {w w' : World} (h : Drw w w') : Drw w w'.drew := by obtain ⟨q, rfl⟩ := h; exact ⟨q + 1, rfl⟩
theorem Drw.drewN {w w' : World} (h : Drw w w') (k : Nat) : Drw w (w'.drewN k) := by obtain ⟨q, rfl⟩ := h; exact ⟨q + k, by rw [World.drewN_drewN]⟩
theorem Drw.trans {a b c : World} (h : Drw a b) (k : Drw b c) : Drw a c := by obtain ⟨q, rfl⟩ := k; exact h.drewN q
theorem Drw.heap {w w' : World} (h : Drw w w') : w'.heap = w.heap := by obtain ⟨q, rfl⟩ := h; rfl
theorem Drw.below {w w' : World} (h : Drw w w') (B : Nat) : Below B w w' := by obtain ⟨q, rfl⟩ := h; exact below_drewN (Below.refl B w) q
theorem Drw.row {w w' : World} (h : Drw w w') {b n : Nat} {f : Nat → Int} (r : Row w b n f) : Row w' b n f := by obtain ⟨q, rfl⟩ := h; exact r

/-- -1, 0 or 1. -/
def cmpZ (a b : Int) : Int := if a < b then -1 else if b < a then 1 else 0
theorem cmpZ_lt {a b : Int} (h : a < b) : cmpZ a b = -1 := if_pos h
theorem cmpZ_gt {a b : Int} (h : b < a) : cmpZ a b = 1 := by unfold cmpZ; rw [if_neg (by omega), if_pos h]
theorem cmpZ_eq {a b : Int} (h : a = b) : cmpZ a b = 0 := by unfold cmpZ; rw [if_neg (by omega), if_neg (by omega)]

theorem val_upper {fa fb : Nat → Int} {m : Nat} : ∀ {n : Nat}, m ≤ n → (∀ i, m ≤ i → i < n → fa i = fb i) → val fa n - val fa m = val fb n - val fb m
  | 0, h, _ => by
    have : m = 0 := by omega
    subst this; rfl
  | n + 1, h, hz => by
    rcases Nat.lt_or_ge n m with hl | hl
    · have : m = n + 1 := by omega
      subst this; omega
    · have ih := val_upper (n := n) hl (fun i h1 h2 => hz i h1 (by omega))
      show val fa n + fa n * 4294967296 ^ n - val fa m = val fb n + fb n * 4294967296 ^ n - val fb m
      rw [hz n hl (by omega)]
      omega
theorem val_lt_of {fa fb : Nat → Int} {k n : Nat} (wa : Wd n fa) (wb : Wd n fb) (hk : k < n) (hz : ∀ i, k + 1 ≤ i → i < n → fa i = fb i) (h : fa k < fb k) : val fa n < val fb n := by
  have h1 : val fa n - val fa (k + 1) = val fb n - val fb (k + 1) := val_upper hk hz
  have h2 := (val_bd (wa.less (show k ≤ n by omega))).2
  have h3 := (val_bd (wb.less (show k ≤ n by omega))).1
  have h4 : (fa k + 1) * 4294967296 ^ k ≤ fb k * 4294967296 ^ k := Int.mul_le_mul_of_nonneg_right (by omega) (Int.le_of_lt (pow_pos k))
  rw [Int.add_mul, Int.one_mul] at h4
  have e1 : val fa (k + 1) = val fa k + fa k * 4294967296 ^ k := rfl
  have e2 : val fb (k + 1) = val fb k + fb k * 4294967296 ^ k := rfl
  omega
/-- The longer of two numbers without a nought last is the greater. -/
theorem val_lt_len {fa fb : Nat → Int} {n m : Nat} (wa : Wd n fa) (wb : Wd m fb) (nb : Nm m fb) (h : n < m) : val fa n < val fb m := by
  obtain ⟨l, rfl⟩ : ∃ l, m = l + 1 := ⟨m - 1, by omega⟩
  have h1 := (val_bd wa).2
  have h2 := val_ge wb (by rcases nb with h | h; exact absurd h (by omega); exact h)
  have h3 : (4294967296 : Int) ^ n ≤ 4294967296 ^ l := by
    obtain ⟨d, rfl⟩ : ∃ d, l = n + d := ⟨l - n, by omega⟩
    rw [Int.pow_add]
    have := Int.mul_le_mul_of_nonneg_left (show 1 ≤ (4294967296 : Int) ^ d from pow_pos d) (Int.le_of_lt (pow_pos n))
    omega
  omega

set_option maxHeartbeats 1000000 in
theorem cmp_core (ao bo : Option Addr) (n m capa capb : Nat) (fa fb : Nat → Int) (hn : n ≤ 549755813888) (hm : m ≤ 549755813888) (w : World)
    (ha : Has w ao n fa) (hb : Has w bo m fb) (wa : Wd n fa) (wb : Wd m fb) (na : Nm n fa) (nb : Nm m fb) :
    Calls Tryz.prog 138 #[.slice ao n capa, .slice bo m capb] w fun e w' => e = .returned (.int .i64 (cmpZ (val fa n) (val fb m))) ∧ Drw w w' := by
  rcases Nat.lt_trichotomy n m with h | h | h
  · have E := hide (cmpZ_lt (val_lt_len wa wb nb h))
    have t : ((n : Int) != (m : Int)) = true := by simp; omega
    clear ha hb wa wb na nb
    go_enter Tryz.func138, Tryz.ntmps138
    go_wp2_with fail
    go_ret
    exact ⟨by rw [unhide E]; rfl, Drw.refl _⟩
  · subst h
    have HA := hide ha; have HB := hide hb; have WA := hide wa; have WB := hide wb
    clear ha hb wa wb na nb
    go_enter Tryz.func138, Tryz.ntmps138
    go_wp2_with fail
    go_loopw [5] (fun is wr => ∃ (i : Int) (k : Nat), is = .int .i64 i ∧ i = (k : Int) - 1 ∧ k ≤ n ∧ (∀ j, k ≤ j → j < n → fa j = fb j) ∧ Drw w wr) (fun is _ => (intOf is + 1).toNat)
    case atStart => exact ⟨_, n, rfl, rfl, Nat.le_refl _, fun j h1 h2 => absurd h2 (by omega), Drw.refl _⟩
    case round =>
      obtain ⟨i, k, rfl, hi, hk, hz, hd⟩ := hrel
      have HZ := hide hz; have HD := hide hd
      clear hz hd
      rcases Nat.eq_zero_or_pos k with h0 | h0
      · subst h0
        have hi2 : i = -1 := by omega
        subst hi2
        have E := hide (cmpZ_eq (show val fa n = val fb n from val_congr (fun j hj => unhide HZ j (by omega) hj)))
        clear hi
        go_wp2_with fail
        go_ret
        exact ⟨by rw [unhide E]; rfl, unhide HD⟩
      · obtain ⟨j, rfl⟩ : ∃ j, k = j + 1 := ⟨k - 1, by omega⟩
        have hi2 : i = (j : Int) := by omega
        subst hi2
        clear hi h0
        obtain ⟨ba, rfl, hba, hra⟩ := unhide HA (by omega)
        obtain ⟨bb, rfl, hbb, hrb⟩ := unhide HB (by omega)
        have ca := (unhide HD).row hra j (by omega)
        have cb := (unhide HD).row hrb j (by omega)
        clear hra hrb
        rcases Int.lt_trichotomy (fa j) (fb j) with h | h | h
        · have E := hide (cmpZ_lt (val_lt_of (unhide WA) (unhide WB) (show j < n by omega) (unhide HZ) h))
          have t : (fa j != fb j) = true := by simp; omega
          go_wp2_with fail
          go_region
          go_wp2_with fail
          go_region
          go_wp2_with fail
          go_ret
          exact ⟨by rw [unhide E]; rfl, (unhide HD).drew.drew⟩
        · have t : (fa j != fb j) = false := by simp; omega
          have HJ := hide h
          clear h
          go_wp2_with fail
          go_region
          go_wp2_with fail
          go_roundw
          case rel => exact ⟨_, j, rfl, rfl, by omega, fun i h1 h2 => by
            rcases Nat.lt_or_ge j i with h | h
            · exact unhide HZ i (by omega) h2
            · have : i = j := by omega
              subst this; exact unhide HJ, (unhide HD).drew⟩
          case measure => simp [intOf]
        · have E := hide (cmpZ_gt (val_lt_of (unhide WB) (unhide WA) (show j < n by omega) (fun i h1 h2 => (unhide HZ i h1 h2).symm) h))
          have t : (fa j != fb j) = true := by simp; omega
          go_wp2_with fail
          go_region
          go_wp2_with fail
          go_region
          go_wp2_with fail
          go_ret
          exact ⟨by rw [unhide E]; rfl, (unhide HD).drew.drew⟩
  · have E := hide (cmpZ_gt (val_lt_len wb wa na h))
    have t : ((n : Int) != (m : Int)) = true := by simp; omega
    clear ha hb wa wb na nb
    go_enter Tryz.func138, Tryz.ntmps138
    go_wp2_with fail
    go_ret
    exact ⟨by rw [unhide E]; rfl, Drw.refl _⟩

theorem cmp_words (va vb : Value) (n m : Nat) (fa fb : Nat → Int) (hn : n ≤ 549755813888) (hm : m ≤ 549755813888) (w : World) (ha : Sl w va n fa) (hb : Sl w vb m fb) (wa : Wd n fa) (wb : Wd m fb) (na : Nm n fa) (nb : Nm m fb) :
    Calls Tryz.prog 138 #[va, vb] w fun e w' => e = .returned (.int .i64 (cmpZ (val fa n) (val fb m))) ∧ Drw w w' := by
  obtain ⟨ao, capa, rfl, -, -, ha⟩ := ha.view
  obtain ⟨bo, capb, rfl, -, -, hb⟩ := hb.view
  exact cmp_core ao bo n m capa capb fa fb hn hm w ha hb wa wb na nb

end Go.Proofs.YthimcecbgpamdaaGreat

namespace Go.Proofs.YthimcecbgpamdaaGreat
open Go.RowKit

set_option maxHeartbeats 400000 in
theorem sum_any (xn yn : Bool) (va vb : Value) (n m : Nat) (fa fb : Nat → Int) (hn : n ≤ 549755813888) (hm : m ≤ 549755813888) (w : World) (ha : Sl w va n fa) (hb : Sl w vb m fb) (wa : Wd n fa) (wb : Wd m fb) (na : Nm n fa) (nb : Nm m fb) :
    Calls Tryz.prog 112 #[.bool xn, va, .bool yn, vb] w fun e w' =>
      ∃ (s : Bool) (v : Value) (l : Nat) (f : Nat → Int), e = .returned (.tuple #[.bool s, v]) ∧ Sl w' v l f ∧ Wd l f ∧ Nm l f ∧ sgnZ s (val f l) = sgnZ xn (val fa n) + sgnZ yn (val fb m) ∧ Below w.heap.size w w' := by
  have HA := hide ha; have HB := hide hb; have WA := hide wa; have WB := hide wb; have NA := hide na; have NB := hide nb
  obtain ⟨ao, capa, rfl, -, -, -⟩ := ha.view
  obtain ⟨bo, capb, rfl, -, -, -⟩ := hb.view
  clear ha hb wa wb na nb
  by_cases h : xn = yn
  · subst h
    have t : (xn == xn) = true := by simp
    go_enter Tryz.func112, Tryz.ntmps112
    go_wp2_with fail
    refine (add_words _ _ n m fa fb hn hm _ (unhide HA) (unhide HB) (unhide WA) (unhide WB)).mono ?_
    rintro e w1 ⟨v, l, f, rfl, h2, h3, h4, h5, h6, h7⟩
    have F := hide (show Sl w1 v l f ∧ Wd l f ∧ Nm l f ∧ sgnZ xn (val f l) = sgnZ xn (val fa n) + sgnZ xn (val fb m) ∧ Below w.heap.size w w1 from ⟨h2, h3, h4, by rw [h5]; cases xn <;> simp [sgnZ]; omega, h7⟩)
    clear h2 h3 h4 h5 h6 h7
    go_wp2_with fail
    go_ret2
    exact ⟨xn, v, l, f, rfl, unhide F⟩
  · have t : (xn == yn) = false := by simpa using h
    have hxy : yn = !xn := by cases xn <;> cases yn <;> simp_all
    have hs : ∀ a b : Int, sgnZ xn a + sgnZ yn b = sgnZ xn (a - b) := by intro a b; rw [hxy]; cases xn <;> simp [sgnZ] <;> omega
    have hs2 : ∀ a b : Int, sgnZ xn a + sgnZ yn b = sgnZ yn (b - a) := by intro a b; rw [hxy]; cases xn <;> simp [sgnZ] <;> omega
    have HS := hide hs; have HS2 := hide hs2
    clear hs hs2 hxy h
    go_enter Tryz.func112, Tryz.ntmps112
    go_wp2_with fail
    refine (cmp_words _ _ n m fa fb hn hm _ (unhide HA) (unhide HB) (unhide WA) (unhide WB) (unhide NA) (unhide NB)).mono ?_
    rintro e w1 ⟨rfl, hd⟩
    have HD := hide (hd.below w.heap.size)
    clear hd
    by_cases hc : val fb m ≤ val fa n
    · have c0 : 0 ≤ cmpZ (val fa n) (val fb m) := by unfold cmpZ; rw [if_neg (by omega)]; split <;> decide
      have hlen : Hid (m ≤ n) := by
        rcases Nat.lt_or_ge n m with h | h
        · exact absurd (val_lt_len (unhide WA) (unhide WB) (unhide NB) h) (by omega)
        · exact h
      have HC := hide hc
      clear hc
      go_wp2_with fail
      refine (sub_words _ _ n m fa fb (unhide hlen) hn _ ((unhide HA).below (unhide HD)) ((unhide HB).below (unhide HD)) (unhide WA) (unhide WB) (unhide HC)).mono ?_
      rintro e w2 ⟨v, l, f, rfl, h2, h3, h4, h5, h6, h7⟩
      have F := hide (show Sl w2 v l f ∧ Wd l f ∧ Nm l f ∧ sgnZ xn (val f l) = sgnZ xn (val fa n) + sgnZ yn (val fb m) ∧ Below w.heap.size w w2 from ⟨h2, h3, h4, by rw [h5, unhide HS], (unhide HD).trans (h7.mono (unhide HD).size)⟩)
      clear h2 h3 h4 h5 h6 h7
      go_wp2_with fail
      go_ret2
      exact ⟨xn, v, l, f, rfl, unhide F⟩
    · have c0 : cmpZ (val fa n) (val fb m) < 0 := by unfold cmpZ; rw [if_pos (by omega)]; decide
      have hlen : Hid (n ≤ m) := by
        rcases Nat.lt_or_ge m n with h | h
        · exact absurd (val_lt_len (unhide WB) (unhide WA) (unhide NA) h) (by omega)
        · exact h
      have HC : Hid (val fa n ≤ val fb m) := by show _ ≤ _; omega
      clear hc
      go_wp2_with fail
      refine (sub_words _ _ m n fb fa (unhide hlen) hm _ ((unhide HB).below (unhide HD)) ((unhide HA).below (unhide HD)) (unhide WB) (unhide WA) (unhide HC)).mono ?_
      rintro e w2 ⟨v, l, f, rfl, h2, h3, h4, h5, h6, h7⟩
      have F := hide (show Sl w2 v l f ∧ Wd l f ∧ Nm l f ∧ sgnZ yn (val f l) = sgnZ xn (val fa n) + sgnZ yn (val fb m) ∧ Below w.heap.size w w2 from ⟨h2, h3, h4, by rw [h5, unhide HS2], (unhide HD).trans (h7.mono (unhide HD).size)⟩)
      clear h2 h3 h4 h5 h6 h7
      go_wp2_with fail
      go_ret2
      exact ⟨yn, v, l, f, rfl, unhide F⟩

end Go.Proofs.YthimcecbgpamdaaGreat
