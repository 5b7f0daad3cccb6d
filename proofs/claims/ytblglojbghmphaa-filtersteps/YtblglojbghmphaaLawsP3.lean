/- Walk of the statement FilterSteps. -/
import Derived.Test.YtblglojbghmphaaRefBeg
import Derived.Test.YtblglojbghmphaaRefStep
namespace Go.Proofs.Ytblglojbghmphaa
open Go.RowKit

def tnOne : Tn := ⟨0, 0, 4294967296, 4294967296⟩
theorem tnOne_ok : tnOne.Ok := ⟨R64_nought, R64_nought, R64_one, R64_one⟩
theorem stepT_one : stepT (begS 0) tnOne 0 = true := by kernel_rfl

set_option maxHeartbeats 2000000 in
theorem filterSteps_walk {w : World} (s : St) (t : Tn) (z : Int) (hs : s.Ok) (ht : t.Ok) (hz : R64 z) : Calls Try.prog 6 #[stV s, tnV t, .int .i64 z] w fun e w' => e = .returned (.bool true) ∧ Below w.heap.size w w' := by
  have Rs := hide hs
  have Rt := hide ht
  have Rz := hide hz
  obtain ⟨v0, ee, d0, k0⟩ := st_start w s t
  have E0 := hide ee; have Kv0 := hide k0; have Dv0 := hide d0
  clear ee d0 k0  hs ht hz
  go_enter Try.func6, Try.ntmps6
  go_wp2_with fail
  rw [← unhide E0]
  obtain ⟨p, ep⟩ : ∃ p, p = stepS s t z := ⟨_, rfl⟩
  obtain ⟨tk, ek⟩ : ∃ tk, tk = stepT s t z := ⟨_, rfl⟩
  have EP := hide ep; have EK := hide ek
  clear ep ek
  refine (step_any s t z _ (unhide Rs) (unhide Rt) (unhide Rz)).mono ?_
  rintro e v1 ⟨rfl, kk⟩
  rw [← unhide EP, ← unhide EK]
  have Dv1 := hide ((unhide Dv0).below kk)
  have Kv1 := hide ((unhide Kv0).trans (kk.mono (unhide Kv0).size))
  clear kk Dv0 Kv0
  have dq0 := (unhide Dv1).st.c0; have dq1 := (unhide Dv1).st.c1; have dq2 := (unhide Dv1).st.c2; have dq3 := (unhide Dv1).st.c3; have dq4 := (unhide Dv1).st.c4; have dq5 := (unhide Dv1).st.c5; have dq6 := (unhide Dv1).st.c6; have tq0 := (unhide Dv1).tn.c0; have tq1 := (unhide Dv1).tn.c1; have tq2 := (unhide Dv1).tn.c2; have tq3 := (unhide Dv1).tn.c3; have dlt := (unhide Dv1).st.lt; have tlt := (unhide Dv1).tn.lt
  go_wp2_with fail
  clear dq0 dq1 dq2 dq3 dq4 dq5 dq6 tq0 tq1 tq2 tq3 dlt tlt
  obtain ⟨v2, ee, hh, kk, zz⟩ := one_state v1 p
  rw [← ee]
  clear ee zz
  have Av2 := hide hh
  clear hh
  have Dv2 := hide ((unhide Dv1).below kk)
  have Kv2 := hide ((unhide Kv1).trans (kk.mono (unhide Kv1).size))
  clear kk Dv1 Kv1
  generalize eBA : v1.heap.size = BA at *
  clear eBA
  refine (refStep_any s t z _ (unhide Rs) (unhide Rt) (unhide Rz)).mono ?_
  rintro e v3 ⟨rfl, kk⟩
  rw [← unhide EP, ← unhide EK]
  have Dv3 := hide ((unhide Dv2).below kk)
  have Av3 := hide ((unhide Av2).below kk)
  have Kv3 := hide ((unhide Kv2).trans (kk.mono (unhide Kv2).size))
  clear kk Dv2 Av2 Kv2
  go_wp2_with fail
  obtain ⟨v4, ee, hh, kk, zz⟩ := one_state v3 p
  rw [← ee]
  clear ee zz
  have Cv4 := hide hh
  clear hh
  have Dv4 := hide ((unhide Dv3).below kk)
  have Av4 := hide ((unhide Av3).below kk)
  have Kv4 := hide ((unhide Kv3).trans (kk.mono (unhide Kv3).size))
  clear kk Dv3 Av3 Kv3
  generalize eBC : v3.heap.size = BC at *
  clear eBC
  refine (begin_any 0 _).mono ?_
  rintro e v5 ⟨rfl, kk⟩
  have Dv5 := hide ((unhide Dv4).below kk)
  have Av5 := hide ((unhide Av4).below kk)
  have Cv5 := hide ((unhide Cv4).below kk)
  have Kv5 := hide ((unhide Kv4).trans (kk.mono (unhide Kv4).size))
  clear kk Dv4 Av4 Cv4 Kv4
  go_wp2_with fail
  obtain ⟨m, em⟩ : ∃ m, m = stepS (begS 0) tnOne 0 := ⟨_, rfl⟩
  have EM := hide em
  clear em
  refine (step_any (begS 0) tnOne 0 _ (begS_ok R64_nought) tnOne_ok R64_nought).mono ?_
  rintro e v6 ⟨rfl, kk⟩
  rw [← unhide EM, stepT_one]
  have Dv6 := hide ((unhide Dv5).below kk)
  have Av6 := hide ((unhide Av5).below kk)
  have Cv6 := hide ((unhide Cv5).below kk)
  have Kv6 := hide ((unhide Kv5).trans (kk.mono (unhide Kv5).size))
  clear kk Dv5 Av5 Cv5 Kv5
  have qb := eqlBool tk
  have K2 := hide ((unhide Kv6).alloc (unhide Kv6).size (.cells #[.int .i64 m.X, .int .i64 m.V, .int .i64 m.P00, .int .i64 m.P01, .int .i64 m.P11, .bool m.B, .int .i64 m.M] 23))
  have aq0 := (unhide Av6).c0; have aq1 := (unhide Av6).c1; have aq2 := (unhide Av6).c2; have aq3 := (unhide Av6).c3; have aq4 := (unhide Av6).c4; have aq5 := (unhide Av6).c5; have aq6 := (unhide Av6).c6; have alt := (unhide Av6).lt
  have cq0 := (unhide Cv6).c0; have cq1 := (unhide Cv6).c1; have cq2 := (unhide Cv6).c2; have cq3 := (unhide Cv6).c3; have cq4 := (unhide Cv6).c4; have cq5 := (unhide Cv6).c5; have cq6 := (unhide Cv6).c6; have clt := (unhide Cv6).lt
  go_wp2_with fail
  clear aq0 aq1 aq2 aq3 aq4 aq5 aq6 alt
  clear cq0 cq1 cq2 cq3 cq4 cq5 cq6 clt
  go_ret
  exact ⟨rfl, unhide K2⟩

end Go.Proofs.Ytblglojbghmphaa
