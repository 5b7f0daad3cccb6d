/- Contracts: own and same of the statements' packages. -/
import Derived.Test.YtnfejfdekedmhacOpenMat
import Derived.Test.YtnfejfdekedmhacMatFaceT
import Derived.Laws.AppendOwnNone
namespace Go.Proofs.Ytnfejfdekedmhac
open Go.RowKit

theorem MbAt.put1 {w : World} {b : Nat} {N : Int} {v : Value} (h : MbAt w b N v) (u : Value) :
    ∃ w', w' = w.setCell ⟨b, 1, none⟩ u ∧ MbAt w' b N u ∧ Kept b w w' := by
  refine ⟨_, rfl, ?_, kept_set w b 1 _⟩
  unfold MbAt at h ⊢
  exact heap_setCell_same w b 1 _ _ u h
theorem mb_alloc (w : World) (N : Int) (v : Value) : ∃ w1, w1 = w.alloc (.cells #[.int .i64 N, v] 25) ∧ MbAt w1 w.heap.size N v ∧ Below w.heap.size w w1 ∧ w1.heap.size = w.heap.size + 1 :=
  ⟨_, rfl, MbAt.new w N v, al_below w _, al_size w _⟩

set_option maxHeartbeats 1000000 in
theorem same_yes (ao bo : Option Addr) (l ca cb : Nat) (f g : Nat → Int) (w : World) (hl : l ≤ 1000) (ha : Rds w ao l f) (hb : Rds w bo l g) (he : ∀ i, i < l → f i = g i) :
    Calls Try.prog 9 #[.slice ao l ca, .slice bo l cb] w fun e w' => e = .returned (.bool true) ∧ Below w.heap.size w w' := by
  have tl : ((l : Int) != (l : Int)) = false := by simp
  have HA := hide ha; have HB := hide hb; have HE := hide he
  clear ha hb he
  go_enter Try.func9, Try.ntmps9
  go_wp2_with fail
  go_loopw [5] (fun is wr => ∃ i : Nat, is = .int .i64 i ∧ i ≤ l ∧ Below w.heap.size w wr)
    (fun is _ => l - (intOf is).toNat)
  case atStart => exact ⟨0, rfl, Nat.zero_le _, Below.refl _ _⟩
  case round =>
    obtain ⟨i, rfl, hi, hK⟩ := hrel
    by_cases hin : i < l
    · obtain ⟨b, o, rfl, hc⟩ := unhide HA (by omega)
      obtain ⟨b2, o2, rfl, hc2⟩ := unhide HB (by omega)
      have c1 := at_below (hc i hin) hK
      have c2 := at_below (hc2 i hin) hK
      rw [unhide HE i hin] at c1
      have tg : ((g i) != (g i)) = false := by simp
      have HK := hide hK
      clear hK hc hc2
      go_wp2_with fail
      go_region
      go_wp2_with fail
      go_roundw
      case rel => exact ⟨i + 1, by go_num, by omega, below_drew (unhide HK)⟩
      case measure => simp [intOf] <;> omega
    · have hin2 : i = l := by omega
      subst hin2
      have HK := hide hK
      clear hK
      go_wp2_with fail
      go_ret
      exact ⟨rfl, unhide HK⟩

end Go.Proofs.Ytnfejfdekedmhac
