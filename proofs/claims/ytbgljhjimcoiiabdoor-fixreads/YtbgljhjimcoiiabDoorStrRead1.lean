/- Contracts of fix's readers of digits: isDigits, isWhole, readWhole. -/
import Derived.Test.YtbgljhjimcoiiabDoorShelf
import Derived.Test.YtbgljhjimcoiiabDoorFixWalks
import Derived.Test.YtbgljhjimcoiiabDoorDecPlain
import Derived.Deep.LoopGhost
namespace Go.Proofs.YtbgljhjimcoiiabDoor
open Go.RowKit Go.Lib

def isD (c : UInt8) : Bool := decide (48 ≤ c.toNat) && decide (c.toNat ≤ 57)
theorem isD_iff (c : UInt8) : isD c = true ↔ 48 ≤ c.toNat ∧ c.toNat ≤ 57 := by unfold isD; simp
/-- A run of digits, at least one. -/
def isDig (l : List UInt8) : Bool := l.all isD && !l.isEmpty
/-- The number of a run of digits. -/
def decV (l : List UInt8) : Nat := l.foldl (fun n c => n * 10 + (c.toNat - 48)) 0
theorem decV_snoc (l : List UInt8) (c : UInt8) : decV (l ++ [c]) = decV l * 10 + (c.toNat - 48) := by unfold decV; rw [List.foldl_append]; rfl
theorem take_more {l : List UInt8} {k : Nat} (hk : k < l.length) : l.take (k + 1) = l.take k ++ [l[k]] := (List.take_append_getElem hk).symm
theorem size_mk (l : List UInt8) : (⟨l.toArray⟩ : ByteArray).size = l.length := by show l.toArray.size = _; rw [List.size_toArray]
/-- A byte of a string. -/
theorem run_at (l : List UInt8) (k : Nat) (hk : k < l.length) (w : World) : (Instr.index 9 (.string ⟨l.toArray⟩) (.int .i64 (k : Int))).run Tryd.prog w = .ok (.int .u8 (l[k].toNat : Int)) w := by
  rw [run_index_string _ _ _ _ _ Tryd.underlying9, dif_pos (by rw [size_mk]; omega)]
  rfl

set_option maxHeartbeats 1000000 in
theorem isDigits_any (l : List UInt8) (hl : l.length ≤ 9223372036854775807) (w : World) :
    Calls Tryd.prog 9 #[.string ⟨l.toArray⟩] w fun e w' => e = .returned (.bool (isDig l)) ∧ w' = w := by
  have hS := size_mk l
  have hat := run_at l
  have HAT := hide hat
  obtain ⟨n, en⟩ : ∃ n, l.length = n := ⟨_, rfl⟩
  rw [en] at hS hl
  obtain ⟨S, eS⟩ : ∃ S : ByteArray, (⟨l.toArray⟩ : ByteArray) = S := ⟨_, rfl⟩
  rw [eS] at hS ⊢
  have EN := hide en; have ES := hide eS
  clear en eS hat
  go_enter Tryd.func9, Tryd.ntmps9
  go_wp2_with fail
  go_loopg [3, 6] n (fun gk _ ks wx => ∃ k : Nat, gk = n - k ∧ k ≤ n ∧ ks = .int .i64 (k : Int) ∧ (∀ j, j < k → ∀ h : j < l.length, isD (l[j]'h) = true) ∧ w = wx)
  case atStart => exact ⟨0, rfl, Nat.zero_le _, rfl, fun j hj => absurd hj (by omega), rfl⟩
  case round =>
    obtain ⟨k, rfl, hk, rfl, hall, rfl⟩ := hrel
    have HALL := hide hall
    clear hall
    by_cases hkn : k < n
    · have hkl : k < l.length := by rw [unhide EN]; exact hkn
      have hix := fun wx => unhide HAT k hkl wx
      rw [unhide ES] at hix
      obtain ⟨c, ec⟩ : ∃ c : Nat, (l[k]).toNat = c := ⟨_, rfl⟩
      rw [ec] at hix
      have EC := hide ec
      have hki : (k : Int) < (n : Int) := by omega
      have hc256 : c < 256 := by rw [← ec]; exact UInt8.toNat_lt _
      by_cases hd : 48 ≤ c ∧ c ≤ 57
      · obtain ⟨hd1, hd2⟩ := hd
        have b1 : decide ((c : Int) < 48) = false := decide_eq_false (by omega)
        have b2 : decide ((57 : Int) < (c : Int)) = false := decide_eq_false (by omega)
        clear ec
        go_wp2_with fail
        go_roundg (n - (k + 1))
        case measure => omega
        case rel =>
          refine ⟨k + 1, rfl, by omega, by go_num, ?_, rfl⟩
          intro j hj h
          rcases Nat.lt_or_ge j k with h1 | h1
          · exact unhide HALL j h1 h
          · obtain rfl : j = k := by omega
            rw [isD_iff, unhide EC]
            exact ⟨hd1, hd2⟩
      · have FIN := hide (show isDig l = false from by
          unfold isDig
          have : l.all isD = false := by
            rw [List.all_eq_false]
            exact ⟨l[k], List.getElem_mem _, by rw [isD_iff, ec]; exact hd⟩
          rw [this]; rfl)
        clear ec
        rcases (show c < 48 ∨ 57 < c by omega) with h1 | h1
        · have b1 : decide ((c : Int) < 48) = true := decide_eq_true (by omega)
          clear hd
          go_wp2_with fail
          go_ret
          rw [unhide FIN]
          exact ⟨rfl, rfl⟩
        · have b1 : decide ((c : Int) < 48) = false := decide_eq_false (by omega)
          have b2 : decide ((57 : Int) < (c : Int)) = true := decide_eq_true (by omega)
          clear hd
          go_wp2_with fail
          go_ret
          rw [unhide FIN]
          exact ⟨rfl, rfl⟩
    · obtain rfl : k = n := by omega
      have hki : ¬ (k : Int) < (k : Int) := by omega
      have FIN := hide (show isDig l = !l.isEmpty from by
        unfold isDig
        have : l.all isD = true := by
          rw [List.all_eq_true]
          intro c hc
          obtain ⟨j, hj, rfl⟩ := List.mem_iff_getElem.1 hc
          exact unhide HALL j (by rw [← unhide EN]; exact hj) hj
        rw [this]; rfl)
      go_wp2_with fail
      go_ret
      refine ⟨?_, rfl⟩
      show Ending.returned (Value.bool (!S.toList.isEmpty)) = _
      rw [unhide FIN, Lib.toList_data, ← unhide ES]

/-- The number of a run of digits, but never more than 2^31 + 1. -/
def wholeV (l : List UInt8) : Nat := if decV l ≤ 2147483649 then decV l else 2147483649
theorem wholeV_snoc (l : List UInt8) (c : UInt8) (d : Nat) (hd : c.toNat - 48 = d) : wholeV (l ++ [c]) = if wholeV l * 10 + d ≤ 2147483649 then wholeV l * 10 + d else 2147483649 := by
  unfold wholeV
  rw [decV_snoc, hd]
  repeat' split
  all_goals omega
theorem wholeV_le (l : List UInt8) : wholeV l ≤ 2147483649 := by unfold wholeV; split <;> omega

set_option maxHeartbeats 1000000 in
theorem readWhole_any (l : List UInt8) (hl : l.length ≤ 9223372036854775807) (hd : l.all isD = true) (w : World) :
    Calls Tryd.prog 11 #[.string ⟨l.toArray⟩] w fun e w' => e = .returned (.int .u64 (wholeV l : Int)) ∧ w' = w := by
  have hS := size_mk l
  have HAT := hide (run_at l)
  have HD := hide hd
  obtain ⟨n, en⟩ : ∃ n, l.length = n := ⟨_, rfl⟩
  rw [en] at hS hl
  obtain ⟨S, eS⟩ : ∃ S : ByteArray, (⟨l.toArray⟩ : ByteArray) = S := ⟨_, rfl⟩
  rw [eS] at hS ⊢
  have EN := hide en; have ES := hide eS
  clear en eS hd
  go_enter Tryd.func11, Tryd.ntmps11
  go_wp2_with fail
  go_loopg [3, 4, 7] n (fun gk ns _ ks wx => ∃ k : Nat, gk = n - k ∧ k ≤ n ∧ ks = .int .i64 (k : Int) ∧ ns = .int .u64 (wholeV (l.take k) : Int) ∧ w = wx)
  case atStart => exact ⟨0, rfl, Nat.zero_le _, rfl, rfl, rfl⟩
  case round =>
    obtain ⟨k, rfl, hk, rfl, rfl, rfl⟩ := hrel
    obtain ⟨v, ev⟩ : ∃ v, wholeV (l.take k) = v := ⟨_, rfl⟩
    have hv : v ≤ 2147483649 := by rw [← ev]; exact wholeV_le _
    rw [ev]
    have EV := hide ev
    clear ev
    by_cases hkn : k < n
    · have hkl : k < l.length := by rw [unhide EN]; exact hkn
      have hix := fun wx => unhide HAT k hkl wx
      rw [unhide ES] at hix
      have hdd := (isD_iff l[k]).1 (List.all_eq_true.1 (unhide HD) _ (List.getElem_mem hkl))
      have HTK := hide (take_more hkl)
      obtain ⟨c, ec⟩ : ∃ c : Nat, (l[k]).toNat = c := ⟨_, rfl⟩
      rw [ec] at hix hdd
      have HNX := hide (show wholeV (l.take (k + 1)) = if v * 10 + (c - 48) ≤ 2147483649 then v * 10 + (c - 48) else 2147483649 from by
        rw [unhide HTK, wholeV_snoc _ _ (c - 48) (by rw [ec]), unhide EV])
      obtain ⟨hd1, hd2⟩ := hdd
      have hki : (k : Int) < (n : Int) := by omega
      obtain ⟨d, rfl⟩ : ∃ d, c = d + 48 := ⟨c - 48, by omega⟩
      rw [show d + 48 - 48 = d by omega] at HNX
      clear ec
      go_wp2_with fail
      go_roundg (n - (k + 1))
      case measure => omega
      case rel =>
        refine ⟨k + 1, rfl, by omega, by go_num, ?_, rfl⟩
        rw [unhide HNX]
        congr 1
        split <;> omega
    · obtain rfl : k = n := by omega
      have hki : ¬ (k : Int) < (k : Int) := by omega
      go_wp2_with fail
      go_ret
      refine ⟨?_, rfl⟩
      rw [← unhide EV, List.take_of_length_le (by rw [unhide EN]; exact Nat.le_refl _)]
      rfl

set_option maxHeartbeats 1000000 in
theorem isWhole_any (l : List UInt8) (hl : l.length ≤ 9223372036854775807) (w : World) :
    Calls Tryd.prog 8 #[.string ⟨l.toArray⟩] w fun e w' => e = .returned (.bool (isDig l && (l == [48] || l.head? != some 48))) ∧ w' = w := by
  have HL := hide hl
  have hS := size_mk l
  cases hdg : isDig l
  · go_enter Tryd.func8, Tryd.ntmps8
    go_wp2_with fail
    refine (isDigits_any l (unhide HL) _).mono ?_
    rintro e w1 ⟨rfl, rfl⟩
    rw [hdg]
    go_wp2_with fail
    go_ret
    exact ⟨rfl, rfl⟩
  · have HDG := hide hdg
    obtain ⟨c, t, rfl⟩ : ∃ c t, l = c :: t := by
      cases l with
      | nil => cases hdg
      | cons c t => exact ⟨c, t, rfl⟩
    have hix : ∀ wx : World, (Instr.index 9 (.string ⟨(c :: t).toArray⟩) (.int .i64 0)).run Tryd.prog wx = .ok (.int .u8 (c.toNat : Int)) wx := fun wx => run_at (c :: t) 0 (by simp) wx
    have hisd := fun wx => isDigits_any (c :: t) (unhide HL) wx
    rw [hdg] at hisd
    have hlist : (⟨(c :: t).toArray⟩ : ByteArray).toList = c :: t := by rw [Lib.toList_data]
    obtain ⟨S, eS⟩ : ∃ S : ByteArray, (⟨(c :: t).toArray⟩ : ByteArray) = S := ⟨_, rfl⟩
    rw [eS] at hS hix hisd hlist ⊢
    obtain ⟨cn, ecn⟩ : ∃ cn : Nat, c.toNat = cn := ⟨_, rfl⟩
    rw [ecn] at hix
    have HISD := hide hisd
    have EHD := hide (show ((cn : Int) != 48) = ((c :: t).head? != some 48) from by
      rw [← ecn]
      show ((c.toNat : Int) != 48) = (some c != some 48)
      by_cases h : c = 48
      · subst h; rfl
      · have h2 : c.toNat ≠ 48 := fun e => h (UInt8.toNat_inj.1 e)
        have e1 : ((c.toNat : Int) != 48) = true := by simp; omega
        have e2 : (some c != some 48) = true := by simp [h]
        rw [e1, e2])
    have hlen : S.size = t.length + 1 := hS
    obtain ⟨tl, etl⟩ : ∃ tl, t.length = tl := ⟨_, rfl⟩
    rw [etl] at hlen
    clear hdg hisd hS ecn eS etl
    cases hq : (c :: t == [48])
    · have hb : (S.toList == [48]) = false := by rw [hlist]; exact hq
      have HQ := hide hq
      clear hlist hq
      go_enter Tryd.func8, Tryd.ntmps8
      go_wp2_with fail
      refine (unhide HISD _).mono ?_
      rintro e w1 ⟨rfl, rfl⟩
      go_wp2_with fail
      go_ret
      refine ⟨?_, rfl⟩
      rw [← unhide EHD]
      rfl
    · have hb : (S.toList == [48]) = true := by rw [hlist]; exact hq
      have HQ := hide hq
      clear hlist hq
      go_enter Tryd.func8, Tryd.ntmps8
      go_wp2_with fail
      refine (unhide HISD _).mono ?_
      rintro e w1 ⟨rfl, rfl⟩
      go_wp2_with fail
      go_ret
      exact ⟨rfl, rfl⟩

end Go.Proofs.YtbgljhjimcoiiabDoor
