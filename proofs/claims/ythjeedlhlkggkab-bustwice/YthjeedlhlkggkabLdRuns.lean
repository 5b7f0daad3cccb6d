/- The contract of the statements' own: runs. -/
import Derived.Test.YthjeedlhlkggkabLdAny
import Derived.Lib.SlBytesConst
namespace Go.Proofs.Ythjeedlhlkggkab
open Go.RowKit

theorem runs_send : sendS zeroBs 0 1 [97] 3 = ⟨0, 1, [⟨0, 1, 3, 0, [97]⟩]⟩ ∧ sendE 0 0 0 1 3 1 = 0 := by
  have h : sendE 0 0 0 1 3 1 = 0 := by decide
  refine ⟨?_, h⟩
  unfold sendS zeroBs
  rw [if_pos (by exact h)]
  have e : wrapS 0 = 1 := by decide
  simp [e]
theorem runs_step : stepS ⟨0, 1, [⟨0, 1, 3, 0, [97]⟩]⟩ 3 = ⟨3, 1, []⟩ ∧ (comeS ⟨0, 1, [⟨0, 1, 3, 0, [97]⟩]⟩ 3).length = 1 ∧ stepE 0 3 = 0 := by
  have h : stepE 0 3 = 0 := by decide
  refine ⟨?_, ?_, h⟩
  · unfold stepS; rw [if_pos (by exact h)]; rfl
  · unfold comeS; rw [if_pos (by exact h)]; rfl

set_option maxHeartbeats 2000000 in
theorem runs_any (hS : SeOK 12) (hP : SpOK' 13) (w : World) :
    Calls Try.prog 6 #[] w fun e w' => e = .returned (.bool true) ∧ Below w.heap.size w w' := by
  obtain ⟨w1, e1⟩ : ∃ w1, w1 = w.alloc (.cells #[.int .u8 97] 5 (1, 2)) := ⟨_, rfl⟩
  have kc := fun (w : World) (C : Array Value) (n c : Nat) => Lib.run_convert_bytes_const (P := Try.prog) w 30 5 C n c Try.underlying30 Try.underlying5
  have k1 : Below w.heap.size w w1 := by rw [e1]; exact al_below _ _
  have s1 : Sr w1 (some ⟨w.heap.size, 0, none⟩) 1 1 (bF (gF [97])) := Or.inr ⟨_, rfl, fun i hi => by
    have : i = 0 := by omega
    subst this
    have hg : w1.heap[w.heap.size]? = some (.cells #[.int .u8 97] 5 (1, 2)) := by
      rw [e1]
      show (w.heap.push _)[w.heap.size]? = _
      rw [Array.getElem?_push_size]
    rw [Addr.add_lit]
    unfold World.cell?
    rw [hg]
    rfl⟩
  have C := hS zeroBs none 0 [] 0 1 3 (some ⟨w.heap.size, 0, none⟩) 1 [97] w1 zeroBs_ok rfl (BRd.nil _ _ _) (by unfold R64; omega) (by unfold R64; omega) (by unfold R64; omega) s1 (by decide) (fun x h => by simp at h; omega) (by decide)
  rw [runs_send.1] at C
  unfold busV zeroBs at C
  dsimp only at C
  rw [show ([] : List Lp).length = 0 from rfl, show ([97] : List Nat).length = 1 from rfl, show ([] : List Pc).length = 0 from rfl, runs_send.2] at C
  have E1 := hide e1; have K1 := hide k1
  clear e1 k1 s1
  go_enter Try.func6, Try.ntmps6
  go_wp2_with fail
  rw [← unhide E1]
  refine C.mono ?_
  rintro e w2 ⟨a2, c2, L2, rfl, t2, n2, k2⟩
  obtain ⟨w3, e3, m3, k3, s3⟩ := bu_alloc w2 0 1 (.slice a2 L2.length c2)
  have x0 := m3.cell0; have x1 := m3.cell1; have x2 := m3.cell2
  have CS := hP ⟨0, 1, [⟨0, 1, 3, 0, [97]⟩]⟩ a2 c2 L2 3 w3 (by rw [← runs_send.1]; exact sendS_ok zeroBs_ok (fun x h => by simp at h; omega)) t2 (n2.1.below k3) (by unfold R64; omega)
  rw [runs_step.1] at CS
  unfold busV at CS
  dsimp only at CS
  rw [runs_step.2.2] at CS
  have E3 := hide e3
  have J3 := hide (show Below w.heap.size w w3 from (unhide K1).trans ((k2.mono (unhide K1).size).trans (k3.mono (Nat.le_trans (unhide K1).size k2.size))))
  rw [e3] at x0 x1 x2
  clear C t2 n2 k2 e3 m3 k3 s3
  go_wp2_with fail
  rw [← unhide E3]
  refine CS.mono ?_
  rintro e w4 ⟨a4, c4, L4, a5, c5, L5, rfl, t4, n4, t5, n5, k4⟩
  have l4 : L4.length = 0 := t4.len
  have l5 : L5.length = 1 := by rw [t5.len]; exact runs_step.2.1
  rw [l4, l5]
  obtain ⟨w5, e5, m5, k5, s5⟩ := bu_alloc w4 3 1 (.slice a4 0 c4)
  have y0 := m5.cell0; have y2 := m5.cell2
  have E5 := hide e5
  have J5 := hide (show Below w.heap.size w w5 from (unhide J3).trans ((k4.mono (unhide J3).size).trans (k5.mono (Nat.le_trans (unhide J3).size k4.size))))
  rw [e5] at y0 y2
  clear CS t4 n4 t5 n5 k4 e5 m5 k5 s5 l4 l5 x0 x1 x2
  go_wp2_with fail
  rw [← unhide E5]
  go_ret
  exact ⟨rfl, unhide J5⟩

end Go.Proofs.Ythjeedlhlkggkab
