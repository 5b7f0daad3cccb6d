/- The walks of AgreeMajorities and AgreeDecides, whatever package agree is made of. -/
import Derived.Test.YtomlpcbccfmejaaRefAgr1
import Derived.Test.YtomlpcbccfmejaaOpenRow
namespace Go.Proofs.Ytomlpcbccfmejaa
open Go.RowKit

theorem five_maj {m : Int} (h : IsMaj (fun _ => 5) 1 0 m) : m = 5 := maj_one h (Or.inl (by decide))
theorem sr_one (w : World) (x : Int) : Sr (w.alloc (.cells #[.int .i64 x] 3)) (some ⟨w.heap.size, 0, none⟩) 1 1 (iF (fun _ => x)) := by
  have V := Vh.new w 3 #[.int .i64 x] (iF (fun _ => x)) (by show 1 ≤ maxLen; decide) (fun i hi => by
    have : i = 0 := by simp at hi; omega
    subst this; rfl)
  exact Or.inr ⟨_, rfl, fun i hi => by rw [Addr.add_lit, Nat.zero_add]; exact V.cell hi⟩

set_option maxHeartbeats 2000000 in
theorem agreeMajorities_by (hMj : MjOK 9) {w : World} (ao : Option Addr) (n cap : Nat) (f : Nat → Int) (other : Int) (ar : ArgS w ao n cap f) (rc : n ≤ cap) (ro : R64 other) :
    Calls Try.prog 3 #[.slice ao n cap, .int .i64 other] w fun e w' => e = .returned (.bool true) ∧ Below w.heap.size w w' := by
  obtain ⟨hs, hl, hf⟩ := ar
  have HS := hide (show Sr w ao n cap (iF f) from hs); have HF := hide hf; have HM := hide hMj; have RO := hide ro
  clear hs hf hMj ro
  go_enter Try.func3, Try.ntmps3
  go_wp2_with (at_builtin; refine wpList_joinI _ rfl _ _ rfl w.heap.size (Nat.le_refl _) (.slice none 0 0) 0 [] rfl (World.ownsRow_nil _ _ _ _) ao n cap (iF f) rfl (unhide HS) (fun i _ => rfl) (by omega) ?_)
  intro v1 w1 o1 k1
  try rw [Nat.zero_add] at o1
  try rw [List.nil_append] at o1
  obtain ⟨a1, c1, rfl, s1, n1⟩ := owns_sr o1
  have S1 := hide s1; have N1 := hide n1; have K1 := hide k1
  clear o1 s1 n1 k1
  go_wp2_with fail
  refine (unhide HM a1 n c1 f other _ (unhide HF) (unhide RO) hl (unhide N1) (unhide S1)).mono ?_
  rintro e w2 ⟨m, hm, rfl, k2⟩
  have M2 := hide hm; have K2 := hide (show Below w.heap.size w w2 from (unhide K1).trans (k2.mono (unhide K1).size))
  clear hm k2
  go_wp2_with fail
  refine (refMajority_ok ao n cap f other _ (unhide HF) (unhide RO) hl rc ((unhide HS).below (unhide K2))).mono ?_
  rintro e w3 ⟨m', hm, rfl, k3⟩
  obtain rfl := maj_one (unhide M2) hm
  have k3' := (unhide K2).trans (k3.mono (unhide K2).size)
  have S4 := hide (sr_one w3 5); have K4 := hide (k3'.trans ((al_below w3 (.cells #[.int .i64 5] 3)).mono k3'.size))
  have tm : (m == m) = true := by simp
  clear hm k3 k3'
  go_wp2_with fail
  refine (unhide HM (some ⟨w3.heap.size, 0, none⟩) 1 1 (fun _ => 5) 0 _ (fun _ => by unfold R64; omega) R64_nought (by omega) (by omega) (unhide S4)).mono ?_
  rintro e w5 ⟨m5, hm5, rfl, k5⟩
  have e5 := five_maj hm5
  subst e5
  have K5 := hide ((unhide K4).trans (k5.mono (unhide K4).size))
  clear hm5 k5
  go_wp2_with fail
  go_ret
  exact ⟨rfl, unhide K5⟩

/-- Three numbers one by one. -/
def l3F (a b c : Int) (i : Nat) : Int := if i = 0 then a else if i = 1 then b else c

set_option maxHeartbeats 2000000 in
theorem agreeDecides_by (hDe : DeOK 11) {w : World} (a b c : Int) (ra : R64 a) (rb : R64 b) (rc : R64 c) :
    Calls Try.prog 4 #[.int .i64 a, .int .i64 b, .int .i64 c] w fun e w' => e = .returned (.bool true) ∧ Below w.heap.size w w' := by
  have HD := hide hDe; have RA := hide ra; have RB := hide rb; have RC := hide rc
  clear hDe ra rb rc
  go_enter Try.func4, Try.ntmps4
  go_wp2_with fail
  refine (unhide HD a b c _ (unhide RA) (unhide RB) (unhide RC)).mono ?_
  rintro e w1 ⟨rfl, k1⟩
  have V2 := Vh.new w1 3 #[.int .i64 a, .int .i64 b, .int .i64 c] (iF (l3F a b c)) (by show 3 ≤ maxLen; decide) (fun i hi => by
    have : i = 0 ∨ i = 1 ∨ i = 2 := by simp at hi; omega
    rcases this with rfl | rfl | rfl <;> rfl)
  have R2 := hide V2.rd
  have K2 := hide (k1.trans ((al_below w1 (.cells #[.int .i64 a, .int .i64 b, .int .i64 c] 3)).mono k1.size))
  clear k1 V2
  go_wp2_with fail
  refine (refMajority_rd (some ⟨w1.heap.size, 0, none⟩) 3 3 (l3F a b c) 0 _ (by omega) (unhide R2)).mono ?_
  rintro e w3 ⟨m, hm, rfl, rfl⟩
  have em : m = dc3 a b c := maj_one hm (dc3_maj (l3F a b c))
  subst em
  obtain ⟨x, ex⟩ : ∃ x, dc3 a b c = x := ⟨_, rfl⟩
  rw [ex]
  have tx : (x == x) = true := by simp
  clear hm ex
  go_wp2_with fail
  refine (unhide HD 0 5 5 _ R64_nought (by unfold R64; omega) (by unfold R64; omega)).mono ?_
  rintro e w4 ⟨rfl, k4⟩
  rw [show dc3 0 5 5 = 5 by decide]
  have K4 := hide ((unhide K2).trans (k4.mono (unhide K2).size))
  clear k4
  go_wp2_with fail
  go_ret
  exact ⟨rfl, unhide K4⟩

end Go.Proofs.Ytomlpcbccfmejaa
