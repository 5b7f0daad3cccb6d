/- Walk of the statement FilterUpdates. -/
import Derived.Test.YtblglojbghmphaaRefBeg
import Derived.Test.YtblglojbghmphaaRefUpd
namespace Go.Proofs.Ytblglojbghmphaa
open Go.RowKit

theorem updT_one : updT (begS 0) 0 4294967296 4294967296 = true := by kernel_rfl

set_option maxHeartbeats 2000000 in
theorem filterUpdates_walk {w : World} (s : St) (z r gate : Int) (hs : s.Ok) (hz : R64 z) (hr : R64 r) (hg : R64 gate) : Calls Try.prog 5 #[stV s, .int .i64 z, .int .i64 r, .int .i64 gate] w fun e w' => e = .returned (.bool true) ∧ Below w.heap.size w w' := by
  have Rs := hide hs
  have Rz := hide hz
  have Rr := hide hr
  have Rg := hide hg
  obtain ⟨v0, ee, d0, k0, zz⟩ := one_state w s
  have E0 := hide ee; have Kv0 := hide k0; have Sv0 := hide d0
  clear ee d0 k0 zz hs hz hr hg
  go_enter Try.func5, Try.ntmps5
  go_wp2_with fail
  rw [← unhide E0]
  obtain ⟨t, et⟩ : ∃ t, t = updS s z r gate := ⟨_, rfl⟩
  obtain ⟨tk, ek⟩ : ∃ tk, tk = updT s z r gate := ⟨_, rfl⟩
  have ET := hide et; have EK := hide ek
  clear et ek
  refine (update_any s z r gate _ (unhide Rs) (unhide Rz) (unhide Rr) (unhide Rg)).mono ?_
  rintro e v1 ⟨rfl, kk⟩
  rw [← unhide ET, ← unhide EK]
  have Sv1 := hide ((unhide Sv0).below kk)
  have Kv1 := hide ((unhide Kv0).trans (kk.mono (unhide Kv0).size))
  clear kk Sv0 Kv0
  have sq0 := (unhide Sv1).c0; have sq1 := (unhide Sv1).c1; have sq2 := (unhide Sv1).c2; have sq3 := (unhide Sv1).c3; have sq4 := (unhide Sv1).c4; have sq5 := (unhide Sv1).c5; have sq6 := (unhide Sv1).c6; have slt := (unhide Sv1).lt
  go_wp2_with fail
  clear sq0 sq1 sq2 sq3 sq4 sq5 sq6 slt
  obtain ⟨v2, ee, hh, kk, zz⟩ := one_state v1 t
  rw [← ee]
  clear ee zz
  have Av2 := hide hh
  clear hh
  have Sv2 := hide ((unhide Sv1).below kk)
  have Kv2 := hide ((unhide Kv1).trans (kk.mono (unhide Kv1).size))
  clear kk Sv1 Kv1
  generalize eBA : v1.heap.size = BA at *
  clear eBA
  refine (refUpdate_any s z r gate _ (unhide Rs) (unhide Rz) (unhide Rr) (unhide Rg)).mono ?_
  rintro e v3 ⟨rfl, kk⟩
  rw [← unhide ET, ← unhide EK]
  have Sv3 := hide ((unhide Sv2).below kk)
  have Av3 := hide ((unhide Av2).below kk)
  have Kv3 := hide ((unhide Kv2).trans (kk.mono (unhide Kv2).size))
  clear kk Sv2 Av2 Kv2
  go_wp2_with fail
  obtain ⟨v4, ee, hh, kk, zz⟩ := one_state v3 t
  rw [← ee]
  clear ee zz
  have Cv4 := hide hh
  clear hh
  have Sv4 := hide ((unhide Sv3).below kk)
  have Av4 := hide ((unhide Av3).below kk)
  have Kv4 := hide ((unhide Kv3).trans (kk.mono (unhide Kv3).size))
  clear kk Sv3 Av3 Kv3
  generalize eBC : v3.heap.size = BC at *
  clear eBC
  refine (begin_any 0 _).mono ?_
  rintro e v5 ⟨rfl, kk⟩
  have Sv5 := hide ((unhide Sv4).below kk)
  have Av5 := hide ((unhide Av4).below kk)
  have Cv5 := hide ((unhide Cv4).below kk)
  have Kv5 := hide ((unhide Kv4).trans (kk.mono (unhide Kv4).size))
  clear kk Sv4 Av4 Cv4 Kv4
  go_wp2_with fail
  obtain ⟨m, em⟩ : ∃ m, m = updS (begS 0) 0 4294967296 4294967296 := ⟨_, rfl⟩
  have EM := hide em
  clear em
  refine (update_any (begS 0) 0 4294967296 4294967296 _ (begS_ok R64_nought) R64_nought R64_one R64_one).mono ?_
  rintro e v6 ⟨rfl, kk⟩
  rw [← unhide EM, updT_one]
  have Sv6 := hide ((unhide Sv5).below kk)
  have Av6 := hide ((unhide Av5).below kk)
  have Cv6 := hide ((unhide Cv5).below kk)
  have Kv6 := hide ((unhide Kv5).trans (kk.mono (unhide Kv5).size))
  clear kk Sv5 Av5 Cv5 Kv5
  have qb := eqlBool tk
  have K2 := hide ((unhide Kv6).alloc (unhide Kv6).size (.cells #[.int .i64 m.X, .int .i64 m.V, .int .i64 m.P00, .int .i64 m.P01, .int .i64 m.P11, .bool m.B, .int .i64 m.M] 23))
  have aq0 := (unhide Av6).c0; have aq1 := (unhide Av6).c1; have aq2 := (unhide Av6).c2; have aq3 := (unhide Av6).c3; have aq4 := (unhide Av6).c4; have aq5 := (unhide Av6).c5; have aq6 := (unhide Av6).c6; have alt := (unhide Av6).lt
  have cq0 := (unhide Cv6).c0; have cq1 := (unhide Cv6).c1; have cq2 := (unhide Cv6).c2; have cq3 := (unhide Cv6).c3; have cq4 := (unhide Cv6).c4; have cq5 := (unhide Cv6).c5; have cq6 := (unhide Cv6).c6; have clt := (unhide Cv6).lt
  go_wp2_with fail
  clear aq0 aq1 aq2 aq3 aq4 aq5 aq6 alt
  clear cq0 cq1 cq2 cq3 cq4 cq5 cq6 clt
  go_ret
  exact ⟨rfl, unhide K2⟩

end Go.Proofs.Ytblglojbghmphaa
