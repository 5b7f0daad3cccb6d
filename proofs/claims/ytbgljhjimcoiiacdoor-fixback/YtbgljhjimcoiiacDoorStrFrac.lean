/- Contract of fix's fractionText: the digits of a fraction of 2^32, one by one, up to the last that is no nought. -/
import Derived.Test.YtbgljhjimcoiiacDoorStrUint
import Derived.Test.YtbgljhjimcoiiacDoorDecPlain
import Derived.Maps.AppendAt
import Derived.Deep.LoopGhost
namespace Go.Proofs.YtbgljhjimcoiiacDoor
open Go.RowKit

theorem infoU8 : (Tryd.prog.info? 5).map (fun i => (i.zero, i.size, i.bytes)) = some (some (.int .u8 0), 1, 1) := by kernel_rfl

/-- The bytes of a list, as cells. -/
def bcells (l : List UInt8) : List Value := l.map fun b => .int .u8 (b.toNat : Int)
theorem bcells_app (l m : List UInt8) : bcells (l ++ m) = bcells l ++ bcells m := List.map_append
theorem bcells_len (l : List UInt8) : (bcells l).length = l.length := List.length_map _

/-- A row of bytes that the call owns, made a string. -/
theorem run_string_of {w : World} {base n : Nat} {v : Value} {l : List UInt8} (h : w.ownsRow base 5 1 v n (bcells l)) (hn : 0 < n) (hl : l.length = n) :
    (convert 44 9 v).run Tryd.prog w = .ok (.string ⟨l.toArray⟩) w := by
  have h0 := h
  rcases h.2 with ⟨_, h1⟩ | ⟨g, cap, cur, rfl, -, -, -, -, -, -⟩
  · omega
  · subst hl
    refine run_convert_bytes_back w 44 9 5 ⟨g, 0, none⟩ cap l Tryd.underlying44 Tryd.underlying5 Tryd.underlying9 (fun k hk => ?_)
    rw [Lib.add_plain, Nat.zero_add, h0.cellAt k (by omega)]
    unfold bcells
    rw [List.getElem?_map, List.getElem?_eq_getElem hk]
    rfl
theorem own_slice {w : World} {base e n : Nat} {v : Value} {xs : List Value} (h : w.ownsRow base e 1 v n xs) : ∃ (ao : Option Addr) (cv : Nat), v = .slice ao n cv := by
  rcases h.2 with ⟨h1, h2⟩ | ⟨g, cap, cur, h1, -⟩
  · exact ⟨none, 0, by rw [h1, h2]⟩
  · exact ⟨_, _, h1⟩

theorem grown_below {B : Nat} {a w w' : World} {e size n : Nat} {v : Value} {xs : List Value} (h : Below B a w) (ho : w.ownsRow B e size v n xs) (hB : B ≤ w.heap.size) (hg : w.grownBy w' v.ownBlock) : Below B a w' :=
  h.grown hg hB (fun k hk => (ho.lt k hk).1)

set_option maxHeartbeats 1000000 in
theorem frac_any (R : Nat) (hR : 0 < R) (hR1 : R < 4294967296) (w : World) :
    Calls Tryd.prog 16 #[.int .u64 R] w fun e w' => ∃ i, i ≤ 31 ∧ fRest R i ≠ 0 ∧ fRest R (i + 1) = 0 ∧ e = .returned (.string ⟨(padD (i + 1) (fNum R (i + 1))).toArray⟩) ∧ Below w.heap.size w w' := by
  obtain ⟨i0, hi, hz0, hz1, hz2⟩ := info_parts infoU8
  have e0 : fRest R 0 = R := by unfold fRest; rw [Nat.pow_zero, Nat.mul_one]; exact Nat.mod_eq_of_lt hR1
  go_enter Tryd.func16, Tryd.ntmps16
  go_wp2_with fail
  go_loopg [0, 3] 32 (fun gk rs v wr => ∃ (i : Nat) (ao : Option Addr) (cv : Nat), gk = 32 - i ∧ i ≤ 32 ∧ rs = .int .u64 ((fRest R i : Nat) : Int) ∧ v = .slice ao i cv ∧ wr.ownsRow w.heap.size 5 1 v i (bcells (padD i (fNum R i))) ∧ (∀ j, j < i → fRest R j ≠ 0) ∧ Below w.heap.size w wr)
  case atStart => exact ⟨0, none, 0, rfl, Nat.zero_le _, by rw [e0], rfl, World.ownsRow_nil _ _ _ _, fun j hj => absurd hj (by omega), Below.refl _ _⟩
  case round =>
    obtain ⟨i, ao, cv, rfl, h32, rfl, rfl, hown, hall, hnx⟩ := hrel
    have HALL := hide hall; have HNX := hide hnx
    have hsize := hnx.size
    clear hall hnx
    obtain ⟨r, er⟩ : ∃ r, fRest R i = r := ⟨_, rfl⟩
    have hr : r < 4294967296 := by rw [← er]; exact fRest_lt R i
    have ER := hide er
    rw [er]
    clear er
    rcases Nat.eq_zero_or_pos r with h0 | h0
    · subst h0
      have hi0 : i ≠ 0 := by
        rintro rfl
        have := unhide ER
        omega
      obtain ⟨k, rfl⟩ : ∃ k, i = k + 1 := ⟨i - 1, by omega⟩
      have hcv := run_string_of hown (by omega) (padD_length _ _)
      have hne : (((0 : Nat) : Int) != 0) = false := rfl
      go_wp2_with fail
      go_ret
      exact ⟨k, by omega, unhide HALL k (by omega), unhide ER, rfl, unhide HNX⟩
    · have hne : ((r : Int) != 0) = true := by simp; omega
      have hd : r * 10 / 4294967296 < 10 := by omega
      have h32' : i ≠ 32 := by
        rintro rfl
        have := unhide ER
        rw [fRest_32] at this; omega
      have em : bits .and .u64 ((r : Int) * 10) 4294967295 = (((r * 10 % 4294967296 : Nat)) : Int) := by
        have := M64.maskN (r * 10) (by omega)
        rw [← this]; rfl
      obtain ⟨d, ed⟩ : ∃ d, r * 10 / 4294967296 = d := ⟨_, rfl⟩
      have ed' : (r : Int) * 10 / 4294967296 = (d : Int) := by omega
      have hd' : d < 10 := by omega
      have HE := hide (And.intro ed em)
      clear ed
      go_wp2_with (first
        | (at_builtin; refine wpList_append_own _ rfl _ _ 44 rfl w.heap.size 5 i0 (.int .u8 0) 1 1 Tryd.underlying44 hi hz0 hz1 hz2 rfl (by decide) _ _ _ rfl (hown.alloc _) ⟨wr.heap.size, 0, none⟩ 1 1 [.int .u8 (48 + (d : Int))] rfl rfl (cell_one_new _ _ _) (fun x hx => by simp at hx; subst hx; rfl) (by unfold maxLen; omega) (by omega) (by simp; omega) ?_; intro v' w3 hown' hgrow3 hnil3))
      go_roundg (32 - (i + 1))
      case measure => omega
      case rel =>
        obtain ⟨ao', cv', hv'⟩ := own_slice hown'
        refine ⟨i + 1, ao', cv', rfl, by omega, ?_, hv', ?_, ?_, ?_⟩
        · rw [fRest_succ, unhide ER]; rfl
        · rw [padD_fNum, bcells_app, unhide ER, (unhide HE).1]
          show w3.ownsRow _ _ _ _ _ (_ ++ [.int .u8 ((dgt d).toNat : Int)])
          rw [dgt_toNat hd']
          exact hown'
        · intro j hj
          rcases Nat.lt_or_ge j i with h | h
          · exact unhide HALL j h
          · obtain rfl : j = i := by omega
            rw [unhide ER]; omega
        · exact grown_below ((unhide HNX).alloc hsize _) (hown.alloc _) (by simp; omega) hgrow3

end Go.Proofs.YtbgljhjimcoiiacDoor
