/- The walk of MiddleMoves, whatever Middle is made of. -/
import Derived.Test.YtgikknoklnbihabClkTell
import Derived.Test.YtgikknoklnbihabJoinV
import Derived.Test.YtgikknoklnbihabSpot
namespace Go.Proofs.Ytgikknoklnbihab
open Go.RowKit

set_option maxRecDepth 100000 in
set_option maxHeartbeats 2000000 in
theorem middleMoves_by (hMd : MdOK 10) {w : World} (ao : Option Addr) (n cap : Nat) (f : Nat → Int) (by_ : Int) (ar : ArgS w ao n cap f) (_rc : n ≤ cap) (_rb : R64 by_) :
    Calls Try.prog 5 #[.slice ao n cap, .int .i64 by_] w fun e w' => e = .returned (.bool true) ∧ Below w.heap.size w w' := by
  obtain ⟨hs, hl, hf⟩ := ar
  have HS := hide (show Rd w ao n (iF f) from Sr.rd (cap := cap) hs); have HF := hide hf; have HM := hide hMd
  clear hs hf hMd
  go_enter Try.func5, Try.ntmps5
  go_wp2_with fail
  refine (spotS_any by_ 1099511627776 (by decide) (by decide) _).mono ?_
  rintro e w1 ⟨d, hd, rfl, rfl⟩
  go_wp2_with fail
  go_loopw [5, 6, 7, 8] (fun sa sb is _ wr => ∃ (i ca cb : Nat) (aa ab : Option Addr) (V : Nat → Int), is = .int .i64 i ∧ i ≤ n ∧ i ≤ 64 ∧ sa = .slice aa i ca ∧ sb = .slice ab i cb ∧ wr.ownsRow w1.heap.size 3 1 (.slice aa i ca) i (rowV (iF V) i) ∧ wr.ownsRow w1.heap.size 3 1 (.slice ab i cb) i (rowV (iF (fun j => V j + d)) i) ∧ Apart (.slice aa i ca) (.slice ab i cb) ∧ (∀ j, 0 ≤ V j ∧ V j < 1099511627776) ∧ Below w1.heap.size w1 wr)
    (fun _ _ is _ _ => 64 - (intOf is).toNat)
  case atStart => exact ⟨0, 0, 0, none, none, fun _ => 0, rfl, Nat.zero_le _, by omega, rfl, rfl, World.ownsRow_nil _ _ _ _, World.ownsRow_nil _ _ _ _, (fun k h _ => by simp [Value.ownBlock] at h), fun _ => by show (0 : Int) ≤ 0 ∧ (0 : Int) < 1099511627776; omega, Below.refl _ _⟩
  case round =>
    obtain ⟨i, ca, cb, aa, ab, V, rfl, hi, hi64, rfl, rfl, oa, ob, hap, hV, hK⟩ := hrel
    rename World => wr
    have OA := hide oa; have OB := hide ob; have AP := hide hap; have HV := hide hV; have HK := hide hK
    clear oa ob hap hV hK
    by_cases h1 : i < n
    · by_cases h2 : i < 64
      · obtain ⟨b, o, rfl, hc⟩ := unhide HS (by omega)
        have ci : wr.cell? ⟨b, o + i, none⟩ = some (.int .i64 (f i)) := at_below (hc i h1) (unhide HK)
        have h1' : (i : Int) < (n : Int) := by omega
        have h2' : (i : Int) < 64 := by omega
        clear hc
        go_wp2_with fail
        refine (spotS_any (f i) 1099511627776 (by decide) (by decide) _).mono ?_
        rintro e w2 ⟨v, hv, rfl, rfl⟩
        clear ci
        -- the first list grows
        have A3 := al_below w2 (.cells #[.int .i64 (v : Int)] 3)
        have R3 := hide ((Vh.new w2 3 #[.int .i64 (v : Int)] (fun _ => .int .i64 (v : Int)) (by show 1 ≤ maxLen; decide) (fun i hi => by
          have : i = 0 := by simp at hi; omega
          subst this; rfl)).rd)
        have k3 := (unhide HK).trans (A3.mono (unhide HK).size)
        have OA3 := hide (own_kept (unhide OA) A3); have OB3 := hide (own_kept (unhide OB) A3); have K3 := hide k3; have Z3 := hide k3.size
        have UB := hide (fun k h => ((unhide OB).lt k h).2)
        clear A3 k3 OA OB HK
        go_wp2_with (at_builtin; refine wpList_joinV _ rfl _ _ rfl w1.heap.size (unhide Z3) aa i ca (iF V) rfl (unhide OA3) w2.heap.size 1 1 (fun _ => .int .i64 (v : Int)) rfl (unhide R3) (fun i _ => rfl) (by omega) (by omega) ?_)
        intro aa4 ca4 w4 o4 g4 l4 k4
        have OB4 := hide (own_grown (unhide OB3) g4 (fun k hk e => unhide AP k e hk))
        have AP4 := hide (show Apart (.slice aa4 (i + 1) ca4) (.slice ab i cb) from fun k h h' => by
          rcases l4 k h with e | e
          · exact unhide AP k e h'
          · have := unhide UB k h'
            have hz := al_size w2 (.cells #[.int .i64 (v : Int)] 3)
            omega)
        have OA4 := hide o4; have K4 := hide ((unhide K3).trans k4); have Z4 := hide ((unhide K3).trans k4).size
        have UA := hide (fun k h => (o4.lt k h).2)
        clear o4 g4 l4 k4 OA3 OB3 K3 Z3 R3 UB AP
        -- the second one
        have ws : IntKind.i64.wrap ((v : Int) + (d : Int)) = (v : Int) + (d : Int) := by rw [IntKind.wrap_i64]; omega
        have A5 := al_below w4 (.cells #[.int .i64 ((v : Int) + (d : Int))] 3)
        have R5 := hide ((Vh.new w4 3 #[.int .i64 ((v : Int) + (d : Int))] (fun _ => .int .i64 ((v : Int) + (d : Int))) (by show 1 ≤ maxLen; decide) (fun i hi => by
          have : i = 0 := by simp at hi; omega
          subst this; rfl)).rd)
        have k5 := (unhide K4).trans (A5.mono (unhide K4).size)
        have OA5 := hide (own_kept (unhide OA4) A5); have OB5 := hide (own_kept (unhide OB4) A5); have K5 := hide k5; have Z5 := hide k5.size
        clear A5 k5 OA4 OB4 K4 Z4
        go_wp2_with (at_builtin; refine wpList_joinV _ rfl _ _ rfl w1.heap.size (unhide Z5) ab i cb (iF (fun j => V j + d)) rfl (unhide OB5) w4.heap.size 1 1 (fun _ => .int .i64 ((v : Int) + (d : Int))) rfl (unhide R5) (fun i _ => rfl) (by omega) (by omega) ?_)
        intro ab6 cb6 w6 o6 g6 l6 k6
        have OA6 := hide (own_grown (unhide OA5) g6 (fun k hk e => unhide AP4 k hk e))
        have AP6 := hide (show Apart (.slice aa4 (i + 1) ca4) (.slice ab6 (i + 1) cb6) from fun k h h' => by
          rcases l6 k h' with e | e
          · exact unhide AP4 k h e
          · have := unhide UA k h
            have hz := al_size w4 (.cells #[.int .i64 ((v : Int) + (d : Int))] 3)
            omega)
        have OB6 := hide o6; have K6 := hide ((unhide K5).trans k6)
        clear o6 g6 l6 k6 OA5 OB5 K5 Z5 R5 UA AP4
        go_wp2_with fail
        go_roundw
        case rel =>
          refine ⟨i + 1, ca4, cb6, aa4, ab6, (fun j => if j = i then (v : Int) else V j), by go_num, by omega, by omega, rfl, rfl, ?_, ?_, unhide AP6, fun j => ?_, unhide K6⟩
          · have e : rowV (iF V) i ++ rowV (fun _ => .int .i64 (v : Int)) 1 = rowV (iF (fun j => if j = i then (v : Int) else V j)) (i + 1) := by
              rw [rowV_congr (g := iF V) (f := iF (fun j => if j = i then (v : Int) else V j)) (fun j hj => by unfold iF; dsimp only; rw [if_neg (by omega)])]
              exact rowV_snoc (by unfold iF; dsimp only; rw [if_pos rfl])
            rw [← e]; exact unhide OA6
          · have e : rowV (iF (fun j => V j + d)) i ++ rowV (fun _ => .int .i64 ((v : Int) + (d : Int))) 1 = rowV (iF (fun j => (if j = i then (v : Int) else V j) + d)) (i + 1) := by
              rw [rowV_congr (g := iF (fun j => V j + d)) (f := iF (fun j => (if j = i then (v : Int) else V j) + d)) (fun j hj => by unfold iF; dsimp only; rw [if_neg (by omega)])]
              exact rowV_snoc (by unfold iF; dsimp only; rw [if_pos rfl])
            rw [← e]; exact unhide OB6
          · show 0 ≤ (if j = i then (v : Int) else V j) ∧ (if j = i then (v : Int) else V j) < 1099511627776
            split
            · omega
            · exact unhide HV j
        case measure => simp [intOf] <;> omega
      · have h2' : ¬ (i : Int) < 64 := by omega
        have h1' : (i : Int) < (n : Int) := by omega
        obtain ⟨_, _, ea, sa, na⟩ := owns_sr (unhide OA)
        cases ea
        obtain ⟨_, _, eb, sb, nb⟩ := owns_sr (unhide OB)
        cases eb
        have SA := hide sa; have SB := hide sb; have NA := hide na; have NB := hide nb
        clear sa sb na nb
        go_wp2_with fail
        refine (unhide HM aa i ca V _ (fun j => by have := unhide HV j; unfold R64; omega) (by omega) (unhide NA) (unhide SA)).mono ?_
        rintro e w5 ⟨m, E, hm, rfl, k5⟩
        have S5 := hide ((unhide SB).below k5); have K5 := hide ((unhide HK).trans (k5.mono (unhide HK).size)); have MM := hide hm
        clear hm k5
        go_wp2_with fail
        refine (unhide HM ab i cb (fun j => V j + d) _ (fun j => by have := unhide HV j; show R64 (V j + d); unfold R64; omega) (by omega) (unhide NB) (unhide S5)).mono ?_
        rintro e w6 ⟨m', E', hm', rfl, k6⟩
        have K6 := hide ((unhide K5).trans (k6.mono (unhide K5).size))
        clear k6
        go_wp2_with fail
        refine (middles_ok (unhide HM) _).mono ?_
        rintro e w7 ⟨rfl, k7⟩
        have K7 := hide ((unhide K6).trans (k7.mono (unhide K6).size))
        clear k7
        rcases unhide MM with ⟨a1, a2, rfl, a4⟩ | ⟨a1, rfl, rfl⟩
        · rcases hm' with ⟨b1, b2, rfl, b4⟩ | ⟨b1, _, _⟩
          · have em := mid_one b4 (mid_move (d := (d : Int)) (fun j _ => rfl) a4)
            subst em
            have bm := mid_within a4 (lo := 0) (hi := 1099511627776) (fun j _ => by have := unhide HV j; omega)
            have ws : IntKind.i64.wrap (m + (d : Int)) = m + (d : Int) := by rw [IntKind.wrap_i64]; omega
            have tm : ((m + (d : Int)) == (m + (d : Int))) = true := by simp
            clear a4 b4 bm
            go_wp2_with fail
            go_ret
            exact ⟨rfl, unhide K7⟩
          · omega
        · rcases hm' with ⟨b1, b2, _, _⟩ | ⟨b1, rfl, rfl⟩
          · omega
          · go_wp2_with fail
            go_ret
            exact ⟨rfl, unhide K7⟩
    · have h1' : ¬ (i : Int) < (n : Int) := by omega
      obtain ⟨_, _, ea, sa, na⟩ := owns_sr (unhide OA)
      cases ea
      obtain ⟨_, _, eb, sb, nb⟩ := owns_sr (unhide OB)
      cases eb
      have SA := hide sa; have SB := hide sb; have NA := hide na; have NB := hide nb
      clear sa sb na nb
      go_wp2_with fail
      refine (unhide HM aa i ca V _ (fun j => by have := unhide HV j; unfold R64; omega) (by omega) (unhide NA) (unhide SA)).mono ?_
      rintro e w5 ⟨m, E, hm, rfl, k5⟩
      have S5 := hide ((unhide SB).below k5); have K5 := hide ((unhide HK).trans (k5.mono (unhide HK).size)); have MM := hide hm
      clear hm k5
      go_wp2_with fail
      refine (unhide HM ab i cb (fun j => V j + d) _ (fun j => by have := unhide HV j; show R64 (V j + d); unfold R64; omega) (by omega) (unhide NB) (unhide S5)).mono ?_
      rintro e w6 ⟨m', E', hm', rfl, k6⟩
      have K6 := hide ((unhide K5).trans (k6.mono (unhide K5).size))
      clear k6
      go_wp2_with fail
      refine (middles_ok (unhide HM) _).mono ?_
      rintro e w7 ⟨rfl, k7⟩
      have K7 := hide ((unhide K6).trans (k7.mono (unhide K6).size))
      clear k7
      rcases unhide MM with ⟨a1, a2, rfl, a4⟩ | ⟨a1, rfl, rfl⟩
      · rcases hm' with ⟨b1, b2, rfl, b4⟩ | ⟨b1, _, _⟩
        · have em := mid_one b4 (mid_move (d := (d : Int)) (fun j _ => rfl) a4)
          subst em
          have bm := mid_within a4 (lo := 0) (hi := 1099511627776) (fun j _ => by have := unhide HV j; omega)
          have ws : IntKind.i64.wrap (m + (d : Int)) = m + (d : Int) := by rw [IntKind.wrap_i64]; omega
          have tm : ((m + (d : Int)) == (m + (d : Int))) = true := by simp
          clear a4 b4 bm
          go_wp2_with fail
          go_ret
          exact ⟨rfl, unhide K7⟩
        · omega
      · rcases hm' with ⟨b1, b2, _, _⟩ | ⟨b1, rfl, rfl⟩
        · omega
        · go_wp2_with fail
          go_ret
          exact ⟨rfl, unhide K7⟩

end Go.Proofs.Ytgikknoklnbihab
