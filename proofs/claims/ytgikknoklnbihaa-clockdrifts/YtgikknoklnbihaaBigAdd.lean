/- Contracts of the reference's whole numbers of any size: add, sub, cmp over lists of words. -/
import Derived.Test.YtgikknoklnbihaaBigGive
import Derived.Deep.OwnRows
namespace Go.Proofs.Ytgikknoklnbihaa
open Go.RowKit

theorem Try.infoU32 : (Try.prog.info? 66).map (fun i => (i.zero, i.size, i.bytes)) = some (some (.int .u32 0), 1, 4) := by kernel_rfl

/-- A block of N words, the call's own. -/
def Own (w : World) (b N : Nat) (g : Nat → Int) : Prop := w.rowIs b 66 N (fun j => .int .u32 (g j))
/-- One word laid anew. -/
def upd (g : Nat → Int) (k : Nat) (x : Int) : Nat → Int := fun j => if j = k then x else g j

theorem upd_same (g : Nat → Int) (k : Nat) (x : Int) : upd g k x k = x := if_pos rfl
theorem upd_other (g : Nat → Int) {k j : Nat} (x : Int) (h : j ≠ k) : upd g k x j = g j := if_neg h
theorem val_upd (g : Nat → Int) (k : Nat) (x : Int) : val (upd g k x) (k + 1) = val g k + x * 4294967296 ^ k := by
  show val (upd g k x) k + upd g k x k * 4294967296 ^ k = _
  rw [upd_same, val_congr (fun i hi => upd_other g x (by omega))]
theorem Wd.upd {g : Nat → Int} {k : Nat} {x : Int} (h : Wd k g) (h0 : 0 ≤ x) (h1 : x < 4294967296) : Wd (k + 1) (upd g k x) := by
  intro i hi
  rcases Nat.lt_or_ge i k with h2 | h2
  · rw [upd_other g x (by omega)]; exact h i h2
  · have : i = k := by omega
    subst this; rw [upd_same]; exact ⟨h0, h1⟩

theorem Own.set {w : World} {b N : Nat} {g : Nat → Int} (h : Own w b N g) (k : Nat) (x : Int) : Own (w.setCell ⟨b, k, none⟩ (.int .u32 x)) b N (upd g k x) := by
  have h2 := World.rowIs.set h k (.int .u32 x)
  have e : (fun j => if j = k then Value.int .u32 x else (fun j => Value.int .u32 (g j)) j) = fun j => Value.int .u32 (upd g k x j) := by
    funext j
    show (if j = k then Value.int .u32 x else Value.int .u32 (g j)) = Value.int .u32 (if j = k then x else g j)
    split <;> rfl
  rw [e] at h2
  exact h2

theorem Own.cell {w : World} {b N : Nat} {g : Nat → Int} (h : Own w b N g) {i : Nat} (hi : i < N) : w.cell? ⟨b, i, none⟩ = some (.int .u32 (g i)) := World.rowIs.cell h hi
theorem Own.free {w : World} {b N : Nat} {g : Nat → Int} (h : Own w b N g) (i : Nat) : w.frozen? ⟨b, i, none⟩ = false := World.rowIs.frozen h i
theorem Own.row {w : World} {b N : Nat} {g : Nat → Int} (h : Own w b N g) : Row w b N g := fun _ hi => h.cell hi
theorem Own.lt {w : World} {b N : Nat} {g : Nat → Int} (h : Own w b N g) : b < w.heap.size := World.rowIs.lt h
theorem own_made (w : World) (N : Nat) : Own (w.alloc (.cells (madeCells #[.int .u32 0] N) 66)) w.heap.size N (fun _ => 0) := World.rowIs_made w (.int .u32 0) N 66
theorem own_drew {w : World} {b N : Nat} {g : Nat → Int} (h : Own w b N g) (k : Nat) : Own (w.drewN k) b N g := h

/-- A slice's words where there are any. -/
def Has (w : World) (ao : Option Addr) (n : Nat) (f : Nat → Int) : Prop := 0 < n → ∃ b, ao = some ⟨b, 0, none⟩ ∧ b < w.heap.size ∧ Row w b n f
theorem Has.below {w w' : World} {ao : Option Addr} {n : Nat} {f : Nat → Int} (h : Has w ao n f) (k : Below w.heap.size w w') : Has w' ao n f := by
  intro hn
  obtain ⟨b, e, h1, h2⟩ := h hn
  exact ⟨b, e, Nat.lt_of_lt_of_le h1 k.size, h2.same (k.block b h1)⟩
theorem Has.below' {w w' : World} {ao : Option Addr} {n : Nat} {f : Nat → Int} (h : Has w ao n f) (k : Below w.heap.size w w') (hn : 0 < n) : ∃ b, ao = some ⟨b, 0, none⟩ ∧ b < w.heap.size ∧ Row w' b n f := by
  obtain ⟨b, e, h1, h2⟩ := h hn
  exact ⟨b, e, h1, h2.same (k.block b h1)⟩
theorem Sl.view {w : World} {v : Value} {n : Nat} {f : Nat → Int} (h : Sl w v n f) : ∃ ao cap, v = .slice ao n cap ∧ n ≤ cap ∧ cap ≤ 9223372036854775807 ∧ Has w ao n f := by
  rcases h with ⟨rfl, rfl⟩ | ⟨b, cap, rfl, h1, h2, h3, h4⟩
  · exact ⟨none, 0, rfl, Nat.le_refl _, by decide, fun h => absurd h (by omega)⟩
  · exact ⟨_, cap, rfl, h1, h2, fun _ => ⟨b, rfl, h3, h4⟩⟩

/-- Words with noughts above. -/
def padF (m : Nat) (f : Nat → Int) : Nat → Int := fun i => if i < m then f i else 0
theorem val_pad (f : Nat → Int) {m n : Nat} (h : m ≤ n) : val (padF m f) n = val f m := by
  have e1 : val (padF m f) n = val (padF m f) m := val_noughts h (fun i h1 _ => if_neg (show ¬ i < m by omega))
  have e2 : val (padF m f) m = val f m := val_congr (fun i hi => if_pos hi)
  rw [e1, e2]

/-- One word of a sum. -/
theorem add_step {fa fb g : Nat → Int} {k : Nat} {c t : Int} (h : val g k + c * 4294967296 ^ k = val fa k + val fb k) (ht : t = c + fa k + fb k) :
    val (upd g k (t % 4294967296)) (k + 1) + t / 4294967296 * 4294967296 ^ (k + 1) = val fa (k + 1) + val fb (k + 1) := by
  rw [val_upd]
  show _ = val fa k + fa k * 4294967296 ^ k + (val fb k + fb k * 4294967296 ^ k)
  have e : t * 4294967296 ^ k = c * 4294967296 ^ k + fa k * 4294967296 ^ k + fb k * 4294967296 ^ k := by rw [ht, Int.add_mul, Int.add_mul]
  have e2 : t % 4294967296 * 4294967296 ^ k + t / 4294967296 * 4294967296 ^ (k + 1) = t * 4294967296 ^ k := by
    rw [Int.pow_succ, Int.mul_comm (4294967296 ^ k) 4294967296, ← Int.mul_assoc, ← Int.add_mul]
    congr 1; omega
  omega

set_option maxHeartbeats 1000000 in
theorem add_core (ao bo : Option Addr) (n m capa capb : Nat) (fa fb : Nat → Int) (hmn : m ≤ n) (hn : n ≤ 549755813888) (w : World)
    (ha : Has w ao n fa) (hb : Has w bo m fb) (wa : Wd n fa) (wb : Wd m fb) :
    Calls Try.prog 44 #[.slice ao n capa, .slice bo m capb] w fun e w' =>
      ∃ (v : Value) (l : Nat) (f : Nat → Int), e = .returned v ∧ Sl w' v l f ∧ Wd l f ∧ Nm l f ∧ val f l = val fa n + val fb m ∧ l ≤ n + 1 ∧ Below w.heap.size w w' := by
  have hmk := fun wx => run_make_row' (P := Try.prog) 53 66 (.int .u32 0) 4 Try.underlying53 Try.infoU32 rfl .i64 .i64 (n + 1) (by omega) (by omega) wx
  rw [show ((n + 1 : Nat) : Int) = (n : Int) + 1 by omega] at hmk
  have HA := hide ha; have HB := hide hb; have WA := hide wa; have WB := hide wb
  clear ha hb wa wb
  go_enter Try.func44, Try.ntmps44
  go_wp2_with fail
  clear hmk
  go_loopw [6, 7] (fun cs is wr => ∃ (k : Nat) (c : Int) (g : Nat → Int), is = .int .i64 k ∧ cs = .int .u64 c ∧ k ≤ n ∧ 0 ≤ c ∧ c ≤ 1 ∧ Own wr w.heap.size (n + 1) g ∧ Wd k g ∧ val g k + c * 4294967296 ^ k = val fa k + val (padF m fb) k ∧ Below w.heap.size w wr)
    (fun _ is _ => n - (intOf is).toNat)
  case atStart => exact ⟨0, 0, _, rfl, rfl, Nat.zero_le _, Int.le_refl _, by decide, own_made w (n + 1), fun i hi => absurd hi (by omega), rfl, below_new w _⟩
  case round =>
    obtain ⟨k, c, g, rfl, rfl, hk, c0, c1, hO, hW, hv, hBl⟩ := hrel
    have HO := hide hO; have HW := hide hW; have HV := hide hv; have HBl := hide hBl
    clear hO hW hv hBl
    by_cases hkn : k < n
    · obtain ⟨ba, rfl, hba, hra⟩ := Has.below' (unhide HA) (unhide HBl) (by omega)
      have ca := hra k hkn
      have co := (unhide HO).cell (show k < n + 1 by omega)
      have fo := (unhide HO).free k
      obtain ⟨a0, a1⟩ := unhide WA k hkn
      clear hra
      by_cases hkm : k < m
      · obtain ⟨bb, rfl, hbb, hrb⟩ := Has.below' (unhide HB) (unhide HBl) (by omega)
        have cb := hrb k hkm
        obtain ⟨b0, b1⟩ := unhide WB k hkm
        have HS := hide (add_step (t := c + fa k + fb k) (unhide HV) (by show _ = c + fa k + (if k < m then fb k else 0); rw [if_pos hkm]))
        clear hrb
        go_wp2_with fail
        go_roundw
        case rel => exact ⟨k + 1, _, _, by go_num, rfl, by omega, by omega, by omega, (unhide HO).set k _, (unhide HW).upd (by omega) (by omega), unhide HS, (unhide HBl).setCell (Nat.le_refl _) _⟩
        case measure => simp [intOf]; omega
      · have HS := hide (add_step (t := c + fa k) (unhide HV) (by show _ = c + fa k + (if k < m then fb k else 0); rw [if_neg hkm]; omega))
        go_wp2_with fail
        go_roundw
        case rel => exact ⟨k + 1, _, _, by go_num, rfl, by omega, by omega, by omega, (unhide HO).set k _, (unhide HW).upd (by omega) (by omega), unhide HS, (unhide HBl).setCell (Nat.le_refl _) _⟩
        case measure => simp [intOf]; omega
    · have hkn2 : k = n := by omega
      subst hkn2
      have co := (unhide HO).cell (show k < k + 1 by omega)
      have fo := (unhide HO).free k
      have hr := ((unhide HO).set k c).row
      have hwd := (unhide HW).upd c0 (show c < 4294967296 by omega)
      have hval : val (upd g k c) (k + 1) = val fa k + val fb m := by rw [val_upd, unhide HV, val_pad fb hmn]
      have HR := hide hr; have HWD := hide hwd; have HVAL := hide hval
      have HOL := hide ((unhide HO).set k c).lt
      clear hr hwd hval
      go_wp2_with fail
      refine (trim_core w.heap.size (k + 1) (k + 1) (upd g k c) (Nat.le_refl _) (by omega) _ (unhide HR)).mono ?_
      rintro e w1 ⟨l, rfl, hl, hz, hnm, rfl⟩
      have F := hide (show Sl (wr.setCell ⟨w.heap.size, k, none⟩ (.int .u32 c)) (.slice (some ⟨w.heap.size, 0, none⟩) l (k + 1)) l (upd g k c) ∧ Wd l (upd g k c) ∧ Nm l (upd g k c) ∧ val (upd g k c) l = val fa k + val fb m ∧ l ≤ k + 1 ∧ Below w.heap.size w (wr.setCell ⟨w.heap.size, k, none⟩ (.int .u32 c)) from
        ⟨Or.inr ⟨_, _, rfl, hl, by omega, unhide HOL, (unhide HR).less hl⟩, (unhide HWD).less hl, hnm, by rw [← val_noughts hl hz]; exact unhide HVAL, hl, (unhide HBl).setCell (Nat.le_refl _) _⟩)
      clear hz hnm
      go_wp2_with fail
      go_ret
      exact ⟨_, l, _, rfl, unhide F⟩

set_option maxHeartbeats 1000000 in
theorem add_swap (ao bo : Option Addr) (n m capa capb : Nat) (fa fb : Nat → Int) (hmn : m < n) (hn : n ≤ 549755813888) (w : World)
    (ha : Has w ao n fa) (hb : Has w bo m fb) (wa : Wd n fa) (wb : Wd m fb) :
    Calls Try.prog 44 #[.slice bo m capb, .slice ao n capa] w fun e w' =>
      ∃ (v : Value) (l : Nat) (f : Nat → Int), e = .returned v ∧ Sl w' v l f ∧ Wd l f ∧ Nm l f ∧ val f l = val fa n + val fb m ∧ l ≤ n + 1 ∧ Below w.heap.size w w' := by
  have hmk := fun wx => run_make_row' (P := Try.prog) 53 66 (.int .u32 0) 4 Try.underlying53 Try.infoU32 rfl .i64 .i64 (n + 1) (by omega) (by omega) wx
  rw [show ((n + 1 : Nat) : Int) = (n : Int) + 1 by omega] at hmk
  have HA := hide ha; have HB := hide hb; have WA := hide wa; have WB := hide wb
  clear ha hb wa wb
  go_enter Try.func44, Try.ntmps44
  go_wp2_with fail
  clear hmk
  go_loopw [6, 7] (fun cs is wr => ∃ (k : Nat) (c : Int) (g : Nat → Int), is = .int .i64 k ∧ cs = .int .u64 c ∧ k ≤ n ∧ 0 ≤ c ∧ c ≤ 1 ∧ Own wr w.heap.size (n + 1) g ∧ Wd k g ∧ val g k + c * 4294967296 ^ k = val fa k + val (padF m fb) k ∧ Below w.heap.size w wr)
    (fun _ is _ => n - (intOf is).toNat)
  case atStart => exact ⟨0, 0, _, rfl, rfl, Nat.zero_le _, Int.le_refl _, by decide, own_made w (n + 1), fun i hi => absurd hi (by omega), rfl, below_new w _⟩
  case round =>
    obtain ⟨k, c, g, rfl, rfl, hk, c0, c1, hO, hW, hv, hBl⟩ := hrel
    have HO := hide hO; have HW := hide hW; have HV := hide hv; have HBl := hide hBl
    clear hO hW hv hBl
    by_cases hkn : k < n
    · obtain ⟨ba, rfl, hba, hra⟩ := Has.below' (unhide HA) (unhide HBl) (by omega)
      have ca := hra k hkn
      have co := (unhide HO).cell (show k < n + 1 by omega)
      have fo := (unhide HO).free k
      obtain ⟨a0, a1⟩ := unhide WA k hkn
      clear hra
      by_cases hkm : k < m
      · obtain ⟨bb, rfl, hbb, hrb⟩ := Has.below' (unhide HB) (unhide HBl) (by omega)
        have cb := hrb k hkm
        obtain ⟨b0, b1⟩ := unhide WB k hkm
        have HS := hide (add_step (t := c + fa k + fb k) (unhide HV) (by show _ = c + fa k + (if k < m then fb k else 0); rw [if_pos hkm]))
        clear hrb
        go_wp2_with fail
        go_roundw
        case rel => exact ⟨k + 1, _, _, by go_num, rfl, by omega, by omega, by omega, (unhide HO).set k _, (unhide HW).upd (by omega) (by omega), unhide HS, (unhide HBl).setCell (Nat.le_refl _) _⟩
        case measure => simp [intOf]; omega
      · have HS := hide (add_step (t := c + fa k) (unhide HV) (by show _ = c + fa k + (if k < m then fb k else 0); rw [if_neg hkm]; omega))
        go_wp2_with fail
        go_roundw
        case rel => exact ⟨k + 1, _, _, by go_num, rfl, by omega, by omega, by omega, (unhide HO).set k _, (unhide HW).upd (by omega) (by omega), unhide HS, (unhide HBl).setCell (Nat.le_refl _) _⟩
        case measure => simp [intOf]; omega
    · have hkn2 : k = n := by omega
      subst hkn2
      have co := (unhide HO).cell (show k < k + 1 by omega)
      have fo := (unhide HO).free k
      have hr := ((unhide HO).set k c).row
      have hwd := (unhide HW).upd c0 (show c < 4294967296 by omega)
      have hval : val (upd g k c) (k + 1) = val fa k + val fb m := by rw [val_upd, unhide HV, val_pad fb (Nat.le_of_lt hmn)]
      have HR := hide hr; have HWD := hide hwd; have HVAL := hide hval
      have HOL := hide ((unhide HO).set k c).lt
      clear hr hwd hval
      go_wp2_with fail
      refine (trim_core w.heap.size (k + 1) (k + 1) (upd g k c) (Nat.le_refl _) (by omega) _ (unhide HR)).mono ?_
      rintro e w1 ⟨l, rfl, hl, hz, hnm, rfl⟩
      have F := hide (show Sl (wr.setCell ⟨w.heap.size, k, none⟩ (.int .u32 c)) (.slice (some ⟨w.heap.size, 0, none⟩) l (k + 1)) l (upd g k c) ∧ Wd l (upd g k c) ∧ Nm l (upd g k c) ∧ val (upd g k c) l = val fa k + val fb m ∧ l ≤ k + 1 ∧ Below w.heap.size w (wr.setCell ⟨w.heap.size, k, none⟩ (.int .u32 c)) from
        ⟨Or.inr ⟨_, _, rfl, hl, by omega, unhide HOL, (unhide HR).less hl⟩, (unhide HWD).less hl, hnm, by rw [← val_noughts hl hz]; exact unhide HVAL, hl, (unhide HBl).setCell (Nat.le_refl _) _⟩)
      clear hz hnm
      go_wp2_with fail
      go_ret
      exact ⟨_, l, _, rfl, unhide F⟩

/-- The sum of two lists of words. -/
theorem add_words (va vb : Value) (n m : Nat) (fa fb : Nat → Int) (hn : n ≤ 549755813888) (hm : m ≤ 549755813888) (w : World) (ha : Sl w va n fa) (hb : Sl w vb m fb) (wa : Wd n fa) (wb : Wd m fb) :
    Calls Try.prog 44 #[va, vb] w fun e w' =>
      ∃ (v : Value) (l : Nat) (f : Nat → Int), e = .returned v ∧ Sl w' v l f ∧ Wd l f ∧ Nm l f ∧ val f l = val fa n + val fb m ∧ l ≤ max n m + 1 ∧ Below w.heap.size w w' := by
  obtain ⟨ao, capa, rfl, -, -, ha⟩ := ha.view
  obtain ⟨bo, capb, rfl, -, -, hb⟩ := hb.view
  rcases Nat.lt_or_ge n m with h | h
  · refine (add_swap bo ao m n capb capa fb fa h hm w hb ha wb wa).mono ?_
    rintro e w' ⟨v, l, f, h1, h2, h3, h4, h5, h6, h7⟩
    exact ⟨v, l, f, h1, h2, h3, h4, by rw [h5, Int.add_comm], by omega, h7⟩
  · refine (add_core ao bo n m capa capb fa fb h hn w ha hb wa wb).mono ?_
    rintro e w' ⟨v, l, f, h1, h2, h3, h4, h5, h6, h7⟩
    exact ⟨v, l, f, h1, h2, h3, h4, h5, by omega, h7⟩

end Go.Proofs.Ytgikknoklnbihaa
