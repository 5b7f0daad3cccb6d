/- Contracts of the reference: Spread. -/
import Derived.Test.YtgikknoklnbihaaFourMem
import Derived.Test.YtgikknoklnbihaaRefClk1
namespace Go.Proofs.Ytgikknoklnbihaa
open Go.RowKit

/-- The greatest difference so far. -/
def spM (f : Nat → Int) (bad : Int) (D : Nat → Nat → Prop) (m : Int) : Prop := 0 ≤ m ∧ (∀ i k : Nat, i < 4 → k < 4 → (i : Int) ≠ bad → (k : Int) ≠ bad → D i k → f i - f k ≤ m) ∧ (m = 0 ∨ ∃ i k : Nat, i < 4 ∧ k < 4 ∧ (i : Int) ≠ bad ∧ (k : Int) ≠ bad ∧ m = f i - f k)
theorem spM_end {f : Nat → Int} {bad m : Int} {D : Nat → Nat → Prop} (h : spM f bad D m) (hD : ∀ i k, i < 4 → k < 4 → D i k) : IsSp f bad m := by
  obtain ⟨h0, h1, h2⟩ := h
  refine ⟨fun i k hi hk bi bk => h1 i k hi hk bi bk (hD i k hi hk), ?_⟩
  rcases h2 with rfl | h2
  · by_cases c : bad = 0
    · exact ⟨1, 1, by omega, by omega, by omega, by omega, by omega⟩
    · exact ⟨0, 0, by omega, by omega, by omega, by omega, by omega⟩
  · exact h2
theorem spM_step {f : Nat → Int} {bad m : Int} {D D' : Nat → Nat → Prop} {i k : Nat} (h : spM f bad D m) (hi : i < 4) (hk : k < 4) (bi : (i : Int) ≠ bad) (bk : (k : Int) ≠ bad) (hD : ∀ a b, D' a b → D a b ∨ (a = i ∧ b = k)) : spM f bad D' (max m (f i - f k)) := by
  obtain ⟨h0, h1, h2⟩ := h
  refine ⟨by omega, fun a b ha hb ba bb d => ?_, ?_⟩
  · rcases hD a b d with h | ⟨rfl, rfl⟩
    · have := h1 a b ha hb ba bb h; omega
    · omega
  · rcases Int.le_total m (f i - f k) with c | c
    · right
      exact ⟨i, k, hi, hk, bi, bk, by omega⟩
    · rw [Int.max_eq_left c]
      exact h2
theorem spM_skip {f : Nat → Int} {bad m : Int} {D D' : Nat → Nat → Prop} {i k : Nat} (h : spM f bad D m) (hb : (i : Int) = bad ∨ (k : Int) = bad) (hD : ∀ a b, D' a b → D a b ∨ (a = i ∧ b = k)) : spM f bad D' m := by
  obtain ⟨h0, h1, h2⟩ := h
  refine ⟨h0, fun a b ha hb' ba bb d => ?_, h2⟩
  rcases hD a b d with h | ⟨rfl, rfl⟩
  · exact h1 a b ha hb' ba bb h
  · rcases hb with e | e
    · exact absurd e ba
    · exact absurd e bb
theorem spM_same {f : Nat → Int} {bad m : Int} {D D' : Nat → Nat → Prop} (h : spM f bad D m) (hD : ∀ a b, a < 4 → b < 4 → D' a b → D a b) : spM f bad D' m := by
  obtain ⟨h0, h1, h2⟩ := h
  exact ⟨h0, fun a b ha hb ba bb d => h1 a b ha hb ba bb (hD a b ha hb d), h2⟩

set_option maxRecDepth 100000 in
set_option maxHeartbeats 4000000 in
theorem refSpread_ok : SpOK 16 := by
  intro f bad w hf hbad
  obtain ⟨w1, e1, mA, k1, s1⟩ := f4_alloc w f
  have c0 := mA.cell (show 0 < 4 by omega); have c1 := mA.cell (show 1 < 4 by omega); have c2 := mA.cell (show 2 < 4 by omega); have c3 := mA.cell (show 3 < 4 by omega)
  have E1 := hide e1; have MA := hide mA; have K1 := hide k1; have HF := hide hf
  clear e1 mA k1 s1 hf
  unfold fourV
  go_enter Try.func16, Try.ntmps16
  go_wp2_with fail
  rw [← unhide E1]
  go_wp2_with fail
  go_loopw [8, 14] (fun _ is wr => w1 = wr ∧ ∃ i : Nat, is = .int .i64 i ∧ i ≤ 4 ∧ ∀ j, j < i → ¬ (f j < -2199023255552 ∨ 2199023255552 < f j)) (fun _ is _ => 4 - (intOf is).toNat)
  case atStart => exact ⟨rfl, 0, rfl, by omega, fun j hj => absurd hj (by omega)⟩
  case round =>
    obtain ⟨rfl, i, rfl, hi, hno⟩ := hrel
    have NO := hide hno
    clear hno
    by_cases hin : i < 4
    · have hin' : (i : Int) < 4 := by omega
      have at_ := run_index4 f hin w1
      obtain ⟨u, eu⟩ : ∃ u, f i = u := ⟨_, rfl⟩
      rw [eu] at at_
      by_cases h1 : u < -2199023255552
      · have BD := hide (show spBad f from ⟨i, hin, by rw [eu]; omega⟩)
        clear eu
        go_wp2_with fail
        go_ret2
        exact ⟨0, 3, Or.inl ⟨unhide BD, rfl, rfl⟩, rfl, unhide K1⟩
      · by_cases h2 : 2199023255552 < u
        · have BD := hide (show spBad f from ⟨i, hin, by rw [eu]; omega⟩)
          clear eu
          go_wp2_with fail
          go_ret2
          exact ⟨0, 3, Or.inl ⟨unhide BD, rfl, rfl⟩, rfl, unhide K1⟩
        · have GD := hide (show ¬ (f i < -2199023255552 ∨ 2199023255552 < f i) by rw [eu]; omega)
          clear eu
          go_wp2_with fail
          go_roundw
          case rel => exact ⟨trivial, i + 1, by go_num, by omega, fun j hj => by
            by_cases e : j = i
            · subst e; exact unhide GD
            · exact unhide NO j (by omega)⟩
          case measure => simp [intOf] <;> omega
    · have e9 : i = 4 := by omega
      subst e9
      rw [show ((4 : Nat) : Int) = 4 from rfl]
      have GD := hide (show ∀ j, j < 4 → -2199023255552 ≤ f j ∧ f j ≤ 2199023255552 from fun j hj => by have := unhide NO j hj; omega)
      have NB := hide (show ¬ spBad f from fun ⟨j, hj, h⟩ => unhide NO j hj h)
      clear NO
      go_wp2_with fail
      go_loopw [6, 9, 10, 11, 12, 25] (fun ms _ _ _ _ is wr => w1 = wr ∧ ∃ (i : Nat) (m : Int), is = .int .i64 i ∧ i ≤ 4 ∧ ms = .int .i64 m ∧ m ≤ 4398046511104 ∧ spM f bad (fun a _ => a < i) m) (fun _ _ _ _ _ is _ => 4 - (intOf is).toNat)
      case atStart => exact ⟨rfl, 0, 0, rfl, by omega, rfl, by omega, by omega, fun a b _ _ _ _ h => absurd h (by omega), Or.inl rfl⟩
      case round =>
        obtain ⟨rfl, i, m, rfl, hi, rfl, hm, hsp⟩ := hrel
        have SP := hide hsp
        clear hsp
        by_cases hin : i < 4
        · have hin' : (i : Int) < 4 := by omega
          have at_ := run_index4 f hin w1
          have gi := unhide GD i hin
          go_wp2_with fail
          clear at_
          go_loopw [6, 11, 12, 30] (fun ms _ _ ks wr => w1 = wr ∧ ∃ (k : Nat) (m : Int), ks = .int .i64 k ∧ k ≤ 4 ∧ ms = .int .i64 m ∧ m ≤ 4398046511104 ∧ spM f bad (fun a b => a < i ∨ (a = i ∧ b < k)) m) (fun _ _ _ ks _ => 4 - (intOf ks).toNat)
          case atStart => exact ⟨rfl, 0, m, rfl, by omega, rfl, hm, spM_same (unhide SP) (fun a b _ _ h => by omega)⟩
          case round =>
            obtain ⟨rfl, k, m2, rfl, hk, rfl, hm2, hsp⟩ := hrel
            have SP2 := hide hsp
            clear hsp
            by_cases hk4 : k < 4
            · have hk4' : (k : Int) < 4 := by omega
              have at2 := run_index4 f hk4 w1
              have gk := unhide GD k hk4
              by_cases bi : (i : Int) = bad
              · have tb : (((i : Nat) : Int) != bad) = false := by simp [bi]
                have F := hide (show spM f bad (fun a b => a < i ∨ (a = i ∧ b < k + 1)) m2 from spM_skip (i := i) (k := k) (unhide SP2) (Or.inl bi) (fun a b h => by omega))
                clear bi
                go_wp2_with fail
                go_roundw
                case rel => exact ⟨trivial, k + 1, m2, by go_num, by omega, rfl, hm2, unhide F⟩
                case measure => simp [intOf] <;> omega
              · by_cases bk : (k : Int) = bad
                · have tb : (((i : Nat) : Int) != bad) = true := by simp [bi]
                  have tc : (((k : Nat) : Int) != bad) = false := by simp [bk]
                  have F := hide (show spM f bad (fun a b => a < i ∨ (a = i ∧ b < k + 1)) m2 from spM_skip (i := i) (k := k) (unhide SP2) (Or.inr bk) (fun a b h => by omega))
                  clear bi bk
                  go_wp2_with fail
                  go_roundw
                  case rel => exact ⟨trivial, k + 1, m2, by go_num, by omega, rfl, hm2, unhide F⟩
                  case measure => simp [intOf] <;> omega
                · have tb : (((i : Nat) : Int) != bad) = true := by simp [bi]
                  have tc : (((k : Nat) : Int) != bad) = true := by simp [bk]
                  have F := hide (show spM f bad (fun a b => a < i ∨ (a = i ∧ b < k + 1)) (max m2 (f i - f k)) from spM_step (i := i) (k := k) (unhide SP2) hin hk4 bi bk (fun a b h => by omega))
                  have ws : IntKind.i64.wrap (f i - f k) = f i - f k := by rw [IntKind.wrap_i64]; omega
                  clear bi bk
                  go_wp2_with fail
                  refine ⟨⟨trivial, k + 1, max m2 (f i - f k), by go_num, by omega, ?_, by omega, unhide F⟩, by simp [intOf] <;> omega⟩
                  congr 1
                  rw [Int.max_def]
                  split <;> split <;> omega
            · have e8 : k = 4 := by omega
              subst e8
              rw [show ((4 : Nat) : Int) = 4 from rfl]
              have F := hide (show spM f bad (fun a _ => a < i + 1) m2 from spM_same (unhide SP2) (fun a b _ _ h => by omega))
              go_wp2_with fail
              go_roundw
              case rel => exact ⟨trivial, i + 1, m2, by go_num, by omega, rfl, hm2, unhide F⟩
              case measure => simp [intOf] <;> omega
        · have e9 : i = 4 := by omega
          subst e9
          rw [show ((4 : Nat) : Int) = 4 from rfl]
          go_wp2_with fail
          go_ret2
          exact ⟨m, 0, Or.inr ⟨unhide NB, rfl, spM_end (unhide SP) (fun a b ha _ => ha)⟩, rfl, unhide K1⟩

end Go.Proofs.Ytgikknoklnbihaa
