/- Contracts of the reference's whole numbers of any size: trim, words. -/
import Derived.Test.YtgikknoklnbihaaFixWalks
import Derived.Test.YtgikknoklnbihaaBigPlain
namespace Go.Proofs.Ytgikknoklnbihaa
open Go.RowKit

set_option maxHeartbeats 400000 in
theorem trim_core (b cap n : Nat) (f : Nat → Int) (hc : n ≤ cap) (hm : cap ≤ 1099511627776) (w : World) (hr : Row w b n f) :
    Calls Try.prog 54 #[.slice (some ⟨b, 0, none⟩) n cap] w fun e w' =>
      ∃ m : Nat, e = .returned (.slice (some ⟨b, 0, none⟩) m cap) ∧ m ≤ n ∧ (∀ i, m ≤ i → i < n → f i = 0) ∧ Nm m f ∧ w' = w := by
  have HR := hide hr
  clear hr
  go_enter Try.func54, Try.ntmps54
  go_wp2_with fail
  go_loop [3] (fun i => ∃ m : Nat, i = .int .i64 m ∧ m ≤ n ∧ ∀ i, m ≤ i → i < n → f i = 0) (fun i => (intOf i).toNat)
  case atStart => exact ⟨n, rfl, Nat.le_refl _, fun i hi h2 => by omega⟩
  case round =>
    obtain ⟨m, rfl, hm2, hz⟩ := hrel
    have HZ := hide hz
    clear hz
    by_cases h0 : m = 0
    · subst h0
      go_wp2_with fail
      go_ret
      exact ⟨0, rfl, by omega, unhide HZ, Or.inl rfl, rfl⟩
    · obtain ⟨k, rfl⟩ : ∃ k, m = k + 1 := ⟨m - 1, by omega⟩
      have hcell := unhide HR k (by omega)
      by_cases hx : f k = 0
      · have ht : (f k == 0) = true := by simpa using hx
        have HX := hide hx
        clear hx h0
        go_wp2_with fail
        go_round
        case rel => exact ⟨k, by go_num, by omega, fun i hi h2 => by
          rcases Nat.lt_or_ge k i with h | h
          · exact unhide HZ i (by omega) h2
          · have : i = k := by omega
            subst this; exact unhide HX⟩
        case measure => simp [intOf]
      · have ht : (f k == 0) = false := by simpa using hx
        have HX := hide hx
        clear hx h0
        go_wp2_with fail
        go_ret
        exact ⟨k + 1, rfl, by omega, unhide HZ, Or.inr (unhide HX), rfl⟩

set_option maxHeartbeats 400000 in
theorem words_any (x : Int) (x0 : 0 ≤ x) (x1 : x < 18446744073709551616) (w : World) :
    Calls Try.prog 53 #[.int .u64 x] w fun e w' =>
      ∃ (v : Value) (m : Nat) (f : Nat → Int), e = .returned v ∧ Sl w' v m f ∧ Wd m f ∧ Nm m f ∧ val f m = x ∧ Below w.heap.size w w' := by
  go_enter Try.func53, Try.ntmps53
  go_wp2_with fail
  have hr : Row (w.alloc (.cells #[.int .u32 (x % 4294967296), .int .u32 (x / 4294967296)] 66)) w.heap.size 2 (fun i => if i = 0 then x % 4294967296 else x / 4294967296) := by
    intro i hi
    rw [World.cell?_alloc_new]
    match i, hi with
    | 0, _ => rfl
    | 1, _ => rfl
  refine (trim_core w.heap.size 2 2 _ (by decide) (by decide) _ hr).mono ?_
  rintro e w1 ⟨m, rfl, hm, hz, hn, rfl⟩
  have hw : Wd 2 (fun i => if i = 0 then x % 4294967296 else x / 4294967296) := by
    intro i hi
    match i, hi with
    | 0, _ => exact ⟨by show 0 ≤ x % 4294967296; omega, by show x % 4294967296 < 4294967296; omega⟩
    | 1, _ => exact ⟨by show 0 ≤ x / 4294967296; omega, by show x / 4294967296 < 4294967296; omega⟩
  have hv : val (fun i => if i = 0 then x % 4294967296 else x / 4294967296) 2 = x := by
    show 0 + x % 4294967296 * 4294967296 ^ 0 + x / 4294967296 * 4294967296 ^ 1 = x
    simp only [Int.reducePow]; omega
  rw [val_noughts hm hz] at hv
  have F := hide (show ∃ (v : Value) (m' : Nat) (f : Nat → Int), Ending.returned (Value.slice (some ⟨w.heap.size, 0, none⟩) m 2) = Ending.returned v ∧ Sl (w.alloc (.cells #[.int .u32 (x % 4294967296), .int .u32 (x / 4294967296)] 66)) v m' f ∧ Wd m' f ∧ Nm m' f ∧ val f m' = x ∧ Below w.heap.size w (w.alloc (.cells #[.int .u32 (x % 4294967296), .int .u32 (x / 4294967296)] 66)) from
    ⟨_, m, _, rfl, Or.inr ⟨w.heap.size, 2, rfl, hm, by decide, by simp, hr.less hm⟩, hw.less hm, hn, hv, (Below.refl _ _).alloc (Nat.le_refl _) _⟩)
  clear hr hw hv hn hz
  go_wp2_with fail
  go_ret
  exact unhide F

end Go.Proofs.Ytgikknoklnbihaa
