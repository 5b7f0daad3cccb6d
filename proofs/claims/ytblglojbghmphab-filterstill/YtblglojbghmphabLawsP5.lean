/- Walk of the statement FilterStill. -/
import Derived.Test.YtblglojbghmphabFilKeep
import Derived.Test.YtblglojbghmphabFilEql
namespace Go.Proofs.Ytblglojbghmphab
open Go.RowKit

theorem muV_l0 (a : Int) : muV 0 a = 0 := by unfold muV mulQ; rw [Int.zero_mul]; decide
theorem muV_r0 (a : Int) : muV a 0 = 0 := by unfold muV mulQ; rw [Int.mul_zero]; decide
theorem adV_r0 {a : Int} (h : R64 a) : adV a 0 = a := by
  unfold adV R64 clampZ at *; rw [Int.add_zero]; split
  · omega
  · split <;> omega
theorem sbC_self (a : Int) : sbC a a = 0 := by unfold sbC; rw [Int.sub_self]; decide
theorem still_step {s : St} {t : Tn} (hs : s.Ok) (hv : s.V = 0) (h : stepT s t s.X = true) : (stepS s t s.X).X = s.X ∧ (stepS s t s.X).V = 0 := by
  have eX : (predS s t.Dt t.Q).X = s.X := by show adV s.X (muV s.V t.Dt) = s.X; rw [hv, muV_l0, adV_r0 hs.X]
  have eV : (predS s t.Dt t.Q).V = 0 := hv
  generalize hp : predS s t.Dt t.Q = p at *
  unfold stepT at h; unfold stepS
  rw [hp] at h ⊢
  have e : overB p s.X t.R t.G = false := by
    unfold updT at h
    cases ho : overB p s.X t.R t.G
    · rfl
    · rw [ho] at h; cases h
  unfold updS
  rw [e]
  have ey : offY p s.X = 0 := by unfold offY; rw [eX, sbC_self]
  rw [ey]
  constructor
  · show adV p.X (muV _ 0) = s.X
    rw [muV_r0, eX, adV_r0 hs.X]
  · show adV p.V (muV _ 0) = 0
    rw [muV_r0, eV, adV_r0 R64_nought]

set_option maxHeartbeats 2000000 in
set_option maxRecDepth 20000 in
theorem filterStill_go {w : World} (s : St) (t : Tn) (s1 : St) (t1 : Tn) (hs : s.Ok) (ht : t.Ok) (es : s1 = ⟨s.X, 0, s.P00, s.P01, s.P11, s.B, s.M⟩) (et : t1 = ⟨t.Dt, t.Q, t.R, 4294967296⟩) : Calls Try.prog 4 #[stV s, tnV t] w fun e w' => e = .returned (.bool true) ∧ Below w.heap.size w w' := by
  have Rs := hide (show s1.Ok by rw [es]; exact ⟨hs.X, R64_nought, hs.P00, hs.P01, hs.P11, hs.M⟩); have Rt := hide (show t1.Ok by rw [et]; exact ⟨ht.Dt, ht.Q, ht.R, R64_one⟩)
  obtain ⟨v0, ee, d0, k0⟩ := st_start w s1 t1
  have EV := hide (show s1.V = 0 by rw [es])
  have E0 := hide (show v0 = (w.alloc (.cells #[.int .i64 s.X, .int .i64 0, .int .i64 s.P00, .int .i64 s.P01, .int .i64 s.P11, .bool s.B, .int .i64 s.M] 23)).alloc (.cells #[.int .i64 t.Dt, .int .i64 t.Q, .int .i64 t.R, .int .i64 4294967296] 25) by rw [ee, es, et])
  have ES := hide (show stV s1 = .agg #[.int .i64 s.X, .int .i64 0, .int .i64 s.P00, .int .i64 s.P01, .int .i64 s.P11, .bool s.B, .int .i64 s.M] by rw [es]); have ET := hide (show tnV t1 = .agg #[.int .i64 t.Dt, .int .i64 t.Q, .int .i64 t.R, .int .i64 4294967296] by rw [et]); have EX := hide (show s1.X = s.X by rw [es])
  have Kv0 := hide k0; have Dv0 := hide d0
  clear ee d0 k0 hs ht es et
  go_enter Try.func4, Try.ntmps4
  go_wp2_with fail
  rw [← unhide E0, ← unhide ES, ← unhide ET, ← unhide EX]
  obtain ⟨p, ep⟩ : ∃ p, p = stepS s1 t1 s1.X := ⟨_, rfl⟩
  obtain ⟨tk, ek⟩ : ∃ tk, tk = stepT s1 t1 s1.X := ⟨_, rfl⟩
  have EP := hide ep; have EK := hide ek
  clear ep ek
  refine (step_any s1 t1 s1.X _ (unhide Rs) (unhide Rt) (unhide Rs).X).mono ?_
  rintro e v1 ⟨rfl, kk⟩
  rw [← unhide EP, ← unhide EK]
  have Dv1 := hide ((unhide Dv0).below kk)
  have Kv1 := hide ((unhide Kv0).trans (kk.mono (unhide Kv0).size))
  clear kk Dv0 Kv0
  go_wp2_with fail
  obtain ⟨v2, ee, hh, kk, zz⟩ := one_state v1 p
  rw [← ee]
  clear ee zz
  have Av2 := hide hh
  clear hh
  have Dv2 := hide ((unhide Dv1).below kk)
  have Kv2 := hide ((unhide Kv1).trans (kk.mono (unhide Kv1).size))
  clear kk Dv1 Kv1
  generalize eBA : v1.heap.size = BA at *
  clear eBA
  refine (follows_any _).mono ?_
  rintro e v3 ⟨rfl, kk⟩
  have Dv3 := hide ((unhide Dv2).below kk)
  have Av3 := hide ((unhide Av2).below kk)
  have Kv3 := hide ((unhide Kv2).trans (kk.mono (unhide Kv2).size))
  clear kk Dv2 Av2 Kv2
  have aq0 := (unhide Av3).c0; have aq1 := (unhide Av3).c1; have dq0 := (unhide Dv3).st.c0
  cases tk
  · go_wp2_with fail
    go_ret
    exact ⟨rfl, (unhide Kv3)⟩
  · have SP := still_step (unhide Rs) (unhide EV) (unhide EK).symm
    rw [← unhide EP] at SP
    rw [SP.1] at aq0; rw [SP.2] at aq1
    clear SP
    go_wp2_with fail
    go_ret
    exact ⟨rfl, (unhide Kv3)⟩

theorem filterStill_walk {w : World} (s : St) (t : Tn) (hs : s.Ok) (ht : t.Ok) : Calls Try.prog 4 #[stV s, tnV t] w fun e w' => e = .returned (.bool true) ∧ Below w.heap.size w w' :=
  filterStill_go s t _ _ hs ht rfl rfl


end Go.Proofs.Ytblglojbghmphab
