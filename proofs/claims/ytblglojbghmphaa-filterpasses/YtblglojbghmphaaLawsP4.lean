/- Walk of the statement FilterPasses. -/
import Derived.Test.YtblglojbghmphaaFilKeep
import Derived.Test.YtblglojbghmphaaFilEql
namespace Go.Proofs.Ytblglojbghmphaa
open Go.RowKit

theorem updS_over {s : St} {z r gate : Int} (h : false = updT s z r gate) : updS s z r gate = s.setM (wrap64 (s.M + 1)) := by
  have e : overB s z r gate = true := by
    unfold updT at h
    cases ho : overB s z r gate
    · rw [ho] at h; cases h
    · rfl
  unfold updS; rw [e]; rfl
theorem updS_taken {s : St} {z r gate : Int} (h : true = updT s z r gate) : (updS s z r gate).M = 0 ∧ True := by
  have e : overB s z r gate = false := by
    unfold updT at h
    cases ho : overB s z r gate
    · rfl
    · rw [ho] at h; cases h
  unfold updS; rw [e]; exact ⟨rfl, trivial⟩

set_option maxHeartbeats 2000000 in
set_option maxRecDepth 20000 in
theorem filterPasses_walk {w : World} (s : St) (z r gate : Int) (hs : s.Ok) (hz : R64 z) (hr : R64 r) (hg : R64 gate) : Calls Try.prog 8 #[stV s, .int .i64 z, .int .i64 r, .int .i64 gate] w fun e w' => e = .returned (.bool true) ∧ Below w.heap.size w w' := by
  have Rs := hide hs
  have Rz := hide hz
  have Rr := hide hr
  have Rg := hide hg
  obtain ⟨v0, ee, d0, k0, zz⟩ := one_state w s
  have E0 := hide ee; have Kv0 := hide k0; have Sv0 := hide d0
  clear ee d0 k0 zz hs hz hr hg
  go_enter Try.func8, Try.ntmps8
  go_wp2_with fail
  rw [← unhide E0]
  obtain ⟨t, et⟩ : ∃ t, t = updS s z r gate := ⟨_, rfl⟩
  obtain ⟨tk, ek⟩ : ∃ tk, tk = updT s z r gate := ⟨_, rfl⟩
  have ET := hide et; have EK := hide ek
  clear et ek
  refine (update_any s z r gate _ (unhide Rs) (unhide Rz) (unhide Rr) (unhide Rg)).mono ?_
  rintro e v1 ⟨rfl, kk⟩
  rw [← unhide ET, ← unhide EK]
  have Sv1 := hide ((unhide Sv0).below kk)
  have Kv1 := hide ((unhide Kv0).trans (kk.mono (unhide Kv0).size))
  clear kk Sv0 Kv0
  cases tk
  · have TE := hide (show t = s.setM (wrap64 (s.M + 1)) by rw [unhide ET]; exact updS_over (unhide EK))
    obtain ⟨u1, e4, h4, k4⟩ := (unhide Sv1).pM (wrap64 (s.M + 1))
    obtain ⟨u2, e5, h5, k5, z5⟩ := one_state u1 t
    have K4 := hide (below_of_kept (unhide Kv1) k4 (Nat.le_refl _) (unhide Kv1).size)
    have K5 := hide ((unhide K4).trans (k5.mono (unhide K4).size))
    rw [e4] at e5
    have E5 := hide e5; have S5 := hide (h4.below k5); have A5 := hide h5
    have zz : u1.heap.size = v1.heap.size := by rw [e4]; simp [World.setCell]
    rw [zz] at A5
    have f6 := (unhide Sv1).free 6; have c6 := (unhide Sv1).c6; have sl := (unhide Sv1).lt
    clear e4 h4 k4 e5 h5 k5 z5 zz
    go_wp2_with fail
    rw [← unhide E5]
    clear f6 c6 sl
    refine (follows_any _).mono ?_
    rintro e u3 ⟨rfl, kk⟩
    have S6 := hide (show SAt u3 w.heap.size t by rw [unhide TE]; exact (unhide S5).below kk); have A6 := hide ((unhide A5).below kk); have K6 := hide ((unhide K5).trans (kk.mono (unhide K5).size))
    clear kk
    have sq0 := (unhide S6).c0; have aq0 := (unhide A6).c0; have sq1 := (unhide S6).c1; have aq1 := (unhide A6).c1; have sq2 := (unhide S6).c2; have aq2 := (unhide A6).c2; have sq3 := (unhide S6).c3; have aq3 := (unhide A6).c3; have sq4 := (unhide S6).c4; have aq4 := (unhide A6).c4; have sq5 := (unhide S6).c5; have aq5 := (unhide A6).c5; have sq6 := (unhide S6).c6; have aq6 := (unhide A6).c6
    go_wp2_with fail
    go_ret
    exact ⟨rfl, unhide K6⟩
  · have TM := hide (show t.M = 0 by rw [unhide ET]; exact (updS_taken (unhide EK)).1)
    have TB := hide (show s.B = true → t.B = true from fun h => by rw [unhide ET]; exact updS_bent h _ _ _)
    go_wp2_with fail
    obtain ⟨v2, ee, hh, kk, zz⟩ := one_state v1 t
    rw [← ee]
    clear ee zz
    have Av2 := hide hh
    clear hh
    have Sv2 := hide ((unhide Sv1).below kk)
    have Kv2 := hide ((unhide Kv1).trans (kk.mono (unhide Kv1).size))
    clear kk Sv1 Kv1
    generalize eBA : v1.heap.size = BA at *
    clear eBA
    refine (follows_any _).mono ?_
    rintro e v3 ⟨rfl, kk⟩
    have Sv3 := hide ((unhide Sv2).below kk)
    have Av3 := hide ((unhide Av2).below kk)
    have Kv3 := hide ((unhide Kv2).trans (kk.mono (unhide Kv2).size))
    clear kk Sv2 Av2 Kv2
    have a6 := (unhide Av3).c6; rw [unhide TM] at a6
    have a5 := (unhide Av3).c5; have s5 := (unhide Sv3).c5
    obtain ⟨sb, eb⟩ : ∃ sb, sb = s.B := ⟨_, rfl⟩
    rw [← eb] at s5
    have EB := hide eb
    clear eb
    cases sb
    · go_wp2_with fail
      go_ret
      exact ⟨rfl, (unhide Kv3)⟩
    · rw [unhide TB (unhide EB).symm] at a5
      go_wp2_with fail
      go_ret
      exact ⟨rfl, (unhide Kv3)⟩

end Go.Proofs.Ytblglojbghmphaa
