/- The walk of MiddleHalves, whatever Middle is made of. -/
import Derived.Test.YtgikknoklnbihabClkTell
import Derived.Test.YtgikknoklnbihabSpot
import Derived.Laws.Cover1
namespace Go.Proofs.Ytgikknoklnbihab
open Go.RowKit

/-- Three numbers as one value. -/
def threeV (f : Nat → Int) : Value := .agg #[.int .i64 (f 0), .int .i64 (f 1), .int .i64 (f 2)]
/-- The block of three numbers. -/
def F3 (w : World) (b : Nat) (f : Nat → Int) : Prop := Vh 30 w b 3 3 (iF f)
section
variable {w w' : World} {b : Nat} {f : Nat → Int}
theorem F3.cell (h : F3 w b f) {i : Nat} (hi : i < 3) : w.cell? ⟨b, i, none⟩ = some (.int .i64 (f i)) := Vh.cell h hi
theorem F3.free (h : F3 w b f) (i : Nat) : w.frozen? ⟨b, i, none⟩ = false := Vh.free h i
theorem F3.below (h : F3 w b f) (k : Below w.heap.size w w') : F3 w' b f := Vh.below h k
theorem F3.kept {z : Nat} (h : F3 w b f) (k : Kept z w w') (hz : b ≠ z) : F3 w' b f := Vh.kept h k hz
theorem F3.set (h : F3 w b f) (i : Nat) (x : Int) : F3 (w.setCell ⟨b, i, none⟩ (.int .i64 x)) b (fun j => if j = i then x else f j) :=
  Vh.congr (Vh.set h i (.int .i64 x)) (fun j _ => by
    unfold stW iF
    by_cases e : j = i
    · rw [if_pos e]; show _ = Value.int .i64 (if j = i then x else f j); rw [if_pos e]
    · rw [if_neg e]; show _ = Value.int .i64 (if j = i then x else f j); rw [if_neg e])
theorem F3.new (w : World) (f : Nat → Int) : F3 (w.alloc (.cells #[.int .i64 (f 0), .int .i64 (f 1), .int .i64 (f 2)] 30)) w.heap.size f :=
  Vh.new w 30 #[.int .i64 (f 0), .int .i64 (f 1), .int .i64 (f 2)] (iF f) (by show 3 ≤ maxLen; decide) (fun i hi => by
    have : i = 0 ∨ i = 1 ∨ i = 2 := by simp at hi; omega
    rcases this with rfl | rfl | rfl <;> rfl)
end
theorem f3_two (w : World) (f : Nat → Int) : ∃ w1, w1 = (w.alloc (.cells #[.int .i64 (f 0), .int .i64 (f 1), .int .i64 (f 2)] 30)).alloc (.cells #[.int .i64 0, .int .i64 0, .int .i64 0] 30) ∧ F3 w1 w.heap.size f ∧ F3 w1 (w.heap.size + 1) (fun _ => 0) ∧ Below w.heap.size w w1 ∧ w1.heap.size = w.heap.size + 1 + 1 := by
  refine ⟨_, rfl, (F3.new w f).below (al_below _ _), ?_, ?_, ?_⟩
  · have h := F3.new (w.alloc (.cells #[.int .i64 (f 0), .int .i64 (f 1), .int .i64 (f 2)] 30)) (fun _ => 0)
    rw [al_size] at h
    exact h
  · exact ((Below.refl _ _).alloc (Nat.le_refl _) _).alloc (by rw [al_size]; omega) _
  · rw [al_size, al_size]

/-- The middles of three numbers with one more, whichever. -/
theorem mids_near {p q r : Int} {f g : Nat → Int} {m n : Int} (f0 : f 0 = p) (f1 : f 1 = q) (f2 : f 2 = r) (g1 : g 1 = p) (g2 : g 2 = q) (g3 : g 3 = r) (hm : IsMid f 4 m) (hn : IsMid g 4 n) :
    ∃ x z, (x ≤ p ∧ x ≤ q ∧ x ≤ r) ∧ (p ≤ z ∧ q ≤ z ∧ r ≤ z) ∧ (x = p ∨ x = q ∨ x = r) ∧ (z = p ∨ z = q ∨ z = r) ∧ x ≤ m ∧ m ≤ z ∧ x ≤ n ∧ n ≤ z ∧ 2 * (m - n) ≤ z - x + 1 ∧ -2 * (m - n) ≤ z - x + 1 := by
  obtain ⟨x, y, z, h1, h2, ⟨a1, a2, a3⟩, ⟨b1, b2, b3⟩, ex, ez, c2, c3⟩ := sort3 p q r
  obtain ⟨u, v, hu, hv, rfl⟩ := hm
  obtain ⟨u', v', hu', hv', rfl⟩ := hn
  have s1 : x ≤ u ∧ u ≤ y ∧ y ≤ v ∧ v ≤ z := by
    refine rk_four hu hv ?_ ?_ ?_ ?_
    · rw [cl4, f0, f1, f2, ind_no (p := p < x) (by omega), ind_no (p := q < x) (by omega), ind_no (p := r < x) (by omega)]; have := ind_le (f 3 < x); omega
    · rw [cle4, f0, f1, f2]; omega
    · rw [cl4, f0, f1, f2]; have := ind_le (f 3 < y); omega
    · rw [cle4, f0, f1, f2, ind_yes (p := p ≤ z) (by omega), ind_yes (p := q ≤ z) (by omega), ind_yes (p := r ≤ z) (by omega)]; omega
  have s2 : x ≤ u' ∧ u' ≤ y ∧ y ≤ v' ∧ v' ≤ z := by
    refine rk_four hu' hv' ?_ ?_ ?_ ?_
    · rw [cl4, g1, g2, g3, ind_no (p := p < x) (by omega), ind_no (p := q < x) (by omega), ind_no (p := r < x) (by omega)]; have := ind_le (g 0 < x); omega
    · rw [cle4, g1, g2, g3]; omega
    · rw [cl4, g1, g2, g3]; have := ind_le (g 0 < y); omega
    · rw [cle4, g1, g2, g3, ind_yes (p := p ≤ z) (by omega), ind_yes (p := q ≤ z) (by omega), ind_yes (p := r ≤ z) (by omega)]; omega
  exact ⟨x, z, ⟨a1, a2, a3⟩, ⟨b1, b2, b3⟩, ex, ez, by omega, by omega, by omega, by omega, by omega, by omega⟩
/-- Four numbers one by one. -/
def l4F (p q r s : Int) (i : Nat) : Int := if i = 0 then p else if i = 1 then q else if i = 2 then r else s
theorem l4_at (p q r s : Int) (i : Nat) (hi : i < 4) : (#[Value.int .i64 p, .int .i64 q, .int .i64 r, .int .i64 s] : Array Value)[i]? = some (iF (l4F p q r s) i) := by
  have : i = 0 ∨ i = 1 ∨ i = 2 ∨ i = 3 := by omega
  rcases this with rfl | rfl | rfl | rfl <;> rfl
theorem l4_R {p q r s : Int} (hp : R64 p) (hq : R64 q) (hr : R64 r) (hs : R64 s) (i : Nat) : R64 (l4F p q r s i) := by unfold l4F; split; exact hp; split; exact hq; split; exact hr; exact hs

set_option maxRecDepth 100000 in
set_option maxHeartbeats 4000000 in
theorem middleHalves_by (hMd : MdOK 10) {w : World} (f : Nat → Int) (a b : Int) (_hf : ∀ i, R64 (f i)) (ra : R64 a) (rb : R64 b) :
    Calls Try.prog 6 #[threeV f, .int .i64 a, .int .i64 b] w fun e w' => e = .returned (.bool true) ∧ Below w.heap.size w w' := by
  obtain ⟨w1, e1, mA, mG, k1, s1⟩ := f3_two w f
  have E1 := hide e1; have MA := hide mA; have MG := hide mG; have K1 := hide k1; have S1 := hide s1; have HM := hide hMd; have RA := hide ra; have RB := hide rb
  clear e1 mA mG k1 s1 hMd ra rb
  unfold threeV
  go_enter Try.func6, Try.ntmps6
  go_wp2_with fail
  rw [← unhide E1]
  go_loopw [8] (fun is wr => ∃ (i : Nat) (G : Nat → Int), is = .int .i64 i ∧ i ≤ 3 ∧ F3 wr w.heap.size f ∧ F3 wr (w.heap.size + 1) G ∧ (∀ j, 0 ≤ G j ∧ G j < 1099511627776) ∧ Below w.heap.size w wr) (fun is _ => 3 - (intOf is).toNat)
  case atStart => exact ⟨0, fun _ => 0, rfl, by omega, unhide MA, unhide MG, fun _ => by show (0 : Int) ≤ 0 ∧ (0 : Int) < 1099511627776; omega, unhide K1⟩
  case round =>
    obtain ⟨i, G, rfl, hi, mA, mG, hG, hK⟩ := hrel
    rename World => wr
    have RAA := hide mA; have RG := hide mG; have HG := hide hG; have HK := hide hK
    clear mA mG hG hK MA MG K1
    by_cases h3 : i < 3
    · have h3' : (i : Int) < 3 := by omega
      have ca := (unhide RAA).cell h3
      go_wp2_with fail
      refine (spotS_any (f i) 1099511627776 (by decide) (by decide) _).mono ?_
      rintro e w2 ⟨v, hv, rfl, rfl⟩
      have cg := (unhide RG).cell h3; have fg := (unhide RG).free i
      have G2 := hide ((unhide RG).set i (v : Int)); have A2 := hide ((unhide RAA).kept (kept_set w2 (w.heap.size + 1) i (.int .i64 (v : Int))) (by omega)); have K2 := hide (below_of_kept (unhide HK) (kept_set w2 (w.heap.size + 1) i (.int .i64 (v : Int))) (by omega) (unhide HK).size)
      clear ca RAA RG HK
      go_wp2_with fail
      go_roundw
      case rel => exact ⟨i + 1, _, by go_num, by omega, unhide A2, unhide G2, (fun j => by
        show 0 ≤ (if j = i then (v : Int) else G j) ∧ (if j = i then (v : Int) else G j) < 1099511627776
        split
        · omega
        · exact unhide HG j), unhide K2⟩
      case measure => simp [intOf] <;> omega
    · have e9 : i = 3 := by omega
      subst e9
      rw [show ((3 : Nat) : Int) = 3 from rfl]
      have c0 := (unhide RG).cell (show 0 < 3 by omega); have c1 := (unhide RG).cell (show 1 < 3 by omega); have c2 := (unhide RG).cell (show 2 < 3 by omega)
      have g0 := unhide HG 0; have g1 := unhide HG 1; have g2 := unhide HG 2
      obtain ⟨p, ep⟩ : ∃ p, G 0 = p := ⟨_, rfl⟩
      obtain ⟨q, eq⟩ : ∃ q, G 1 = q := ⟨_, rfl⟩
      obtain ⟨r, er⟩ : ∃ r, G 2 = r := ⟨_, rfl⟩
      rw [ep] at c0 g0
      rw [eq] at c1 g1
      rw [er] at c2 g2
      have S2 := hide (sr_new wr #[.int .i64 p, .int .i64 q, .int .i64 r, .int .i64 a] (l4F p q r a) 4 rfl (by omega) (fun i hi => l4_at p q r a i hi))
      have k2 := (unhide HK).trans ((al_below wr (.cells #[.int .i64 p, .int .i64 q, .int .i64 r, .int .i64 a] 3)).mono (unhide HK).size)
      have G2 := hide ((unhide RG).below (al_below wr (.cells #[.int .i64 p, .int .i64 q, .int .i64 r, .int .i64 a] 3)))
      have K2 := hide k2; have EP := hide ep; have EQ := hide eq; have ER := hide er
      have RP := hide (show R64 p by unfold R64; omega); have RQ := hide (show R64 q by unfold R64; omega); have RRr := hide (show R64 r by unfold R64; omega)
      clear k2 ep eq er RG RAA HK HG
      go_wp2_with fail
      refine (md_at (unhide HM) (some ⟨wr.heap.size, 0, none⟩) 4 4 (l4F p q r a) _ (l4_R (unhide RP) (unhide RQ) (unhide RRr) (unhide RA)) (by omega) (by omega) (by omega) (unhide S2)).mono ?_
      rintro e w3 ⟨m, hm, rfl, k3⟩
      have G3 := (unhide G2).below k3
      clear c0 c1 c2
      have c0 := G3.cell (show 0 < 3 by omega); have c1 := G3.cell (show 1 < 3 by omega); have c2 := G3.cell (show 2 < 3 by omega)
      rw [unhide EP] at c0
      rw [unhide EQ] at c1
      rw [unhide ER] at c2
      have K3 := (unhide K2).trans (k3.mono (unhide K2).size)
      have S4 := hide (sr_new w3 #[.int .i64 b, .int .i64 p, .int .i64 q, .int .i64 r] (l4F b p q r) 4 rfl (by omega) (fun i hi => l4_at b p q r i hi))
      have K4 := hide (K3.trans ((al_below w3 (.cells #[.int .i64 b, .int .i64 p, .int .i64 q, .int .i64 r] 3)).mono K3.size))
      have G4 := hide (G3.below (al_below w3 (.cells #[.int .i64 b, .int .i64 p, .int .i64 q, .int .i64 r] 3))); have HMM := hide hm
      clear G3 K3 k3 hm K2 G2 S2
      go_wp2_with fail
      refine (md_at (unhide HM) (some ⟨w3.heap.size, 0, none⟩) 4 4 (l4F b p q r) _ (l4_R (unhide RB) (unhide RP) (unhide RQ) (unhide RRr)) (by omega) (by omega) (by omega) (unhide S4)).mono ?_
      rintro e w5 ⟨n, hn, rfl, k5⟩
      have G5 := (unhide G4).below k5
      clear c0 c1 c2
      have c0 := G5.cell (show 0 < 3 by omega); have c1 := G5.cell (show 1 < 3 by omega); have c2 := G5.cell (show 2 < 3 by omega)
      rw [unhide EP] at c0
      rw [unhide EQ] at c1
      rw [unhide ER] at c2
      obtain ⟨x, z, x1, z1, x2, z2, d1, d2, d3, d4, d5, d6⟩ := mids_near (f := l4F p q r a) (g := l4F b p q r) (p := p) (q := q) (r := r) rfl rfl rfl rfl rfl rfl (unhide HMM) hn
      have mx : (Builtin.max_ #[3, 3, 3] 3 #[.int .i64 p, .int .i64 q, .int .i64 r]).run Try.prog w5 = .ok (.int .i64 z) w5 := by
        rw [run_max_int3]
        congr 2
        split <;> split <;> omega
      have mn : (Builtin.min_ #[3, 3, 3] 3 #[.int .i64 p, .int .i64 q, .int .i64 r]).run Try.prog w5 = .ok (.int .i64 x) w5 := by
        rw [run_min_int3]
        congr 2
        split <;> split <;> omega
      have X1 : 0 ≤ x := by omega
      have X2 : z < 1099511627776 := by omega
      have X3 : x ≤ z := by omega
      have D5 := hide d5; have D6 := hide d6
      have K5 := hide ((unhide K4).trans (k5.mono (unhide K4).size))
      have m1 : 0 ≤ m := by omega
      have m2 : m < 1099511627776 := by omega
      have n1 : 0 ≤ n := by omega
      have n2 : n < 1099511627776 := by omega
      clear G5 k5 hn K4 G4 S4 HMM x1 x2 z1 z2 d1 d2 d3 d4 d5 d6
      go_wp2_with fail
      refine (middles_ok (unhide HM) _).mono ?_
      rintro e w6 ⟨rfl, k6⟩
      have K6 := hide ((unhide K5).trans (k6.mono (unhide K5).size))
      have d5 := unhide D5; have d6 := unhide D6
      clear k6 c0 c1 c2 mx mn
      go_wp2_with fail
      go_ret
      exact ⟨rfl, unhide K6⟩

end Go.Proofs.Ytgikknoklnbihab
