/- Contract of package filter's Run. -/
import Derived.Test.YtblglojbghmphaaFilFace
namespace Go.Proofs.Ytblglojbghmphaa
open Go.RowKit

set_option maxHeartbeats 2000000 in
theorem run_any (s : St) (t : Tn) (ao : Option Addr) (len cap : Nat) (f : Nat → Int) (w : World) (hs : s.Ok) (ht : t.Ok) (hf : ∀ i, R64 (f i)) (hl : len ≤ 1000000000) (hr : Rds w ao len f) :
    Calls Try.prog 17 #[stV s, tnV t, .slice ao len cap] w fun e w' => e = .returned (.tuple #[stV (runS s t f len), .int .i64 (runN s t f len : Nat)]) ∧ Below w.heap.size w w' := by
  obtain ⟨w1, e1, d1, g1, k1⟩ := step_start w s t
  have OK := hide hs; have OT := hide ht; have RF := hide hf; have E1 := hide e1; have D1 := hide d1; have G1 := hide g1; have K1 := hide k1; have HR := hide hr
  clear hs ht hf e1 d1 g1 k1 hr
  go_enter Try.func17, Try.ntmps17
  go_wp2_with fail
  rw [← unhide E1]
  go_loopw [8, 15] (fun ns is wr => ∃ k : Nat, is = .int .i64 k ∧ k ≤ len ∧ ns = .int .i64 (runN s t f k : Nat) ∧ ST w.heap.size (w.heap.size + 1) (runS s t f k) t wr ∧ SAt wr (w.heap.size + 1 + 1) St.nil ∧ Below w.heap.size w wr) (fun _ is _ => len - (intOf is).toNat)
  case atStart => exact ⟨0, rfl, Nat.zero_le _, rfl, unhide D1, unhide G1, unhide K1⟩
  case round =>
    obtain ⟨k, rfl, hk, rfl, hD, hG, hK⟩ := hrel
    obtain ⟨p, ep⟩ : ∃ p, p = runS s t f k := ⟨_, rfl⟩
    obtain ⟨n, en⟩ : ∃ n, n = runN s t f k := ⟨_, rfl⟩
    have nk : n ≤ k := by rw [en]; exact runN_le _ _ _ _
    have OP := hide (show p.Ok by rw [ep]; exact runS_ok (unhide OK) _ _ _)
    rw [← en]
    rw [← ep] at hD
    have EP := hide ep; have EN := hide en
    clear ep en D1 G1 K1
    by_cases hkn : k < len
    · obtain ⟨b, o, rfl, hc⟩ := unhide HR (by omega)
      have cz := at_below (hc k hkn) hK
      have c0 := hD.st.c0; have c1 := hD.st.c1; have c2 := hD.st.c2; have c3 := hD.st.c3; have c4 := hD.st.c4; have c5 := hD.st.c5; have c6 := hD.st.c6
      have q0 := hD.tn.c0; have q1 := hD.tn.c1; have q2 := hD.tn.c2; have q3 := hD.tn.c3
      have D := hide hD; have G := hide hG; have KK := hide hK
      clear hD hG hK hc
      go_wp2_with fail
      clear c0 c1 c2 c3 c4 c5 c6 q0 q1 q2 q3 cz
      refine (step_any p t (f k) _ (unhide OP) (unhide OT) (unhide RF k)).mono ?_
      rintro e w2 ⟨rfl, kk⟩
      have hD := (unhide D).below kk; have hG := (unhide G).below kk; have hK := (unhide KK).trans (kk.mono (unhide KK).size)
      clear D G KK kk
      obtain ⟨q, eq⟩ : ∃ q, q = stepS p t (f k) := ⟨_, rfl⟩
      obtain ⟨tk, ek⟩ : ∃ tk, tk = stepT p t (f k) := ⟨_, rfl⟩
      rw [← eq, ← ek]
      have EK := hide ek
      have EQ := hide (show runS s t f (k + 1) = q by rw [eq, unhide EP]; rfl)
      clear eq ek
      obtain ⟨w3, e3, h3, k3⟩ := hD.st.put q
      obtain ⟨w4, e4, h4, k4, z4⟩ := one_state w3 q
      have D4 := hide (show ST w.heap.size (w.heap.size + 1) (runS s t f (k + 1)) t w4 by rw [unhide EQ]; exact ⟨h3.below k4, (hD.tn.kept k3 (by omega)).below k4⟩)
      have G4 := hide ((hG.kept k3 (by omega)).below k4)
      have hK3 := below_of_kept hK k3 (Nat.le_refl _) hK.size
      have K4 := hide (hK3.trans (k4.mono hK3.size))
      rw [e3] at e4
      have E4 := hide e4
      have c0 := hD.st.c0; have c1 := hD.st.c1; have c2 := hD.st.c2; have c3 := hD.st.c3; have c4 := hD.st.c4; have c5 := hD.st.c5; have c6 := hD.st.c6
      have f0 := hD.st.free 0; have f1 := hD.st.free 1; have f2 := hD.st.free 2; have f3 := hD.st.free 3; have f4 := hD.st.free 4; have f5 := hD.st.free 5; have f6 := hD.st.free 6
      have ls := hD.st.lt
      clear hD hG hK hK3 e3 h3 k3 e4 h4 k4 z4
      cases tk
      · go_wp2_with fail
        rw [← unhide E4]
        go_roundw
        case rel => exact ⟨k + 1, by go_num, by omega, by rw [show runN s t f (k + 1) = runN s t f k + (if stepT (runS s t f k) t (f k) then 1 else 0) from rfl, ← unhide EP, ← unhide EN, ← unhide EK]; go_num, unhide D4, unhide G4, unhide K4⟩
        case measure => simp [intOf] <;> omega
      · go_wp2_with fail
        rw [← unhide E4]
        go_roundw
        case rel => exact ⟨k + 1, by go_num, by omega, by rw [show runN s t f (k + 1) = runN s t f k + (if stepT (runS s t f k) t (f k) then 1 else 0) from rfl, ← unhide EP, ← unhide EN, ← unhide EK]; go_num, unhide D4, unhide G4, unhide K4⟩
        case measure => simp [intOf] <;> omega
    · have hkn2 : k = len := by omega
      subst hkn2
      have c0 := hD.st.c0; have c1 := hD.st.c1; have c2 := hD.st.c2; have c3 := hD.st.c3; have c4 := hD.st.c4; have c5 := hD.st.c5; have c6 := hD.st.c6
      have b0 := hG.c0; have b1 := hG.c1; have b2 := hG.c2; have b3 := hG.c3; have b4 := hG.c4; have b5 := hG.c5; have b6 := hG.c6
      have f0 := hG.free 0; have f1 := hG.free 1; have f2 := hG.free 2; have f3 := hG.free 3; have f4 := hG.free 4; have f5 := hG.free 5; have f6 := hG.free 6
      obtain ⟨w4, e4, h4, k4⟩ := hG.put p
      have E4 := hide e4; have H4 := hide h4; have K4 := hide (below_of_kept hK k4 (by omega) hK.size)
      clear hD hG hK e4 h4 k4
      go_wp2_with fail
      rw [← unhide E4]
      have p0 := (unhide H4).c0; have p1 := (unhide H4).c1; have p2 := (unhide H4).c2; have p3 := (unhide H4).c3; have p4 := (unhide H4).c4; have p5 := (unhide H4).c5; have p6 := (unhide H4).c6
      refine bodyPost_ret (v := .tuple #[stV p, .int .i64 (n : Nat)]) (by simp [results, Try.results17, go_sem, p0, p1, p2, p3, p4, p5, p6]) rfl ⟨by rw [unhide EP, unhide EN], unhide K4⟩

end Go.Proofs.Ytblglojbghmphaa
