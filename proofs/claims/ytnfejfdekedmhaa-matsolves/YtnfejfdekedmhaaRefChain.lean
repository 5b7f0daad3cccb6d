/- Contracts: the reference's Reckon.div, chain. -/
import Derived.Test.YtnfejfdekedmhaaJoinI
import Derived.Test.YtnfejfdekedmhaaMatFacS
namespace Go.Proofs.Ytnfejfdekedmhaa
open Go.RowKit

set_option maxHeartbeats 400000 in
theorem rfDiv_ok (b : Nat) (x : Bool) (a c : Int) (w : World) (ha : R64 a) (hc : R64 c) (h : RfAt w b x) :
    Calls Try.prog 38 #[.pointer (some ⟨b, 0, none⟩), .int .i64 a, .int .i64 c] w fun e w' =>
      e = .returned (.int .i64 (divV a c)) ∧ RfAt w' b (x || divB a c) ∧ Kept b w w' := by
  have D : Calls Try.prog 53 #[.int .i64 a, .int .i64 c] w fun e w' => e = .returned (.tuple #[.int .i64 (divV a c), .bool (divB a c)]) ∧ Below w.heap.size w w' := by
    by_cases hz : c = 0
    · subst hz; exact (refDiv_zero a w).mono fun e w' h => ⟨h.1, by rw [h.2]; exact Below.refl _ _⟩
    · exact refDiv_any a c ha hc hz w
  have DD := hide D
  have H := hide h
  clear ha hc h D
  go_enter Try.func38, Try.ntmps38
  go_wp2_with fail
  refine (unhide DD).mono ?_
  rintro e w1 ⟨rfl, k1⟩
  have H1 := hide ((unhide H).below k1); have K1 := hide k1
  clear k1
  go_wp2_with fail
  refine (see_any b x _ _ _ (unhide H1)).mono ?_
  rintro e w2 ⟨rfl, h2, k2⟩
  have H2 := hide h2; have K2 := hide ((Kept.of_below (z := b) (unhide K1)).trans k2 (Or.inl rfl))
  clear h2 k2
  go_wp2_with fail
  go_ret
  exact ⟨rfl, unhide H2, unhide K2⟩

/-- A function of the program is entered. -/
def EntersR (k : Nat) : Prop := ∀ (args : Array Value) (w : World), (callFunc k args).run Try.prog w = .ok (.enter k args) w
theorem entersR_of {k : Nat} {fn : Func} (hf : Try.prog.funcs[k]? = some fn) (hname : (fn.name == "runtime.NumGoroutine") = false) (hb : fn.body.isSome = true) : EntersR k := by
  intro args w
  obtain ⟨c, hc⟩ := Option.isSome_iff_exists.1 hb
  have h1 : fn.name ≠ "runtime.NumGoroutine" := by simpa using hname
  simp [callFunc, hf, h1, hc]

set_option maxHeartbeats 1000000 in
theorem chain_any (ka kb : Nat) (ca cb : Array Value) (ina : EntersR ka) (inb : EntersR kb) (n bk : Nat) (a b : Nat → Int) (J : World → Prop) (ra : ∀ t, R64 (a t)) (rb : ∀ t, R64 (b t))
    (hA : ∀ t, t < n → ∀ u, J u → Calls Try.prog ka (#[.int .i64 (t : Int)] ++ ca) u fun e u' => e = .returned (.int .i64 (a t)) ∧ Below u.heap.size u u')
    (hB : ∀ t, t < n → ∀ u, J u → Calls Try.prog kb (#[.int .i64 (t : Int)] ++ cb) u fun e u' => e = .returned (.int .i64 (b t)) ∧ Below u.heap.size u u')
    (hJ : ∀ u u', J u → Kept bk u u' → J u') (x : Bool) (w : World) (h : RfAt w bk x) (j : J w) (hn : n ≤ 6) :
    Calls Try.prog 29 #[.pointer (some ⟨bk, 0, none⟩), .int .i64 (n : Int), .func (.func ka) #[] ca, .func (.func kb) #[] cb] w fun e w' =>
      e = .returned (.int .i64 (chV a b n)) ∧ RfAt w' bk (x || chB a b n) ∧ Kept bk w w' := by
  have runa : ∀ (args : Array Value) (w : World), (callFunc ka args).run Try.prog w = .ok (.enter ka args) w := ina
  have runb : ∀ (args : Array Value) (w : World), (callFunc kb args).run Try.prog w = .ok (.enter kb args) w := inb
  have H := hide h; have HA := hide hA; have HB := hide hB; have HJ := hide hJ; have JW := hide j; have RA := hide ra; have RB := hide rb
  clear h hA hB hJ j ra rb ina inb
  go_enter Try.func29, Try.ntmps29
  go_wp2_with fail
  go_loopw [9, 10, 11] (fun s ks _ wr => ∃ k : Nat, ks = .int .i64 k ∧ k ≤ n ∧ s = .int .i64 (chV a b k) ∧ RfAt wr bk (x || chB a b k) ∧ Kept bk w wr) (fun _ ks _ _ => n - (intOf ks).toNat)
  case atStart =>
    refine ⟨0, rfl, Nat.zero_le _, rfl, ?_, kept_refl _ _⟩
    show RfAt w bk (x || false)
    rw [Bool.or_false]; exact unhide H
  case round =>
    obtain ⟨k, rfl, hk, rfl, hR, hK⟩ := hrel
    have HR := hide hR; have HK := hide hK
    clear hR hK
    obtain ⟨s, es⟩ : ∃ s, chV a b k = s := ⟨_, rfl⟩
    have RS := hide (show R64 s by rw [← es]; exact chV_R _ _ _)
    rw [es]
    have ES := hide es
    clear es
    by_cases hkn : k < n
    · go_wp2_with fail
      refine (unhide HA k hkn _ (unhide HJ _ _ (unhide JW) (unhide HK))).mono ?_
      rintro e w1 ⟨rfl, k1⟩
      have K1 := hide ((unhide HK).trans (Kept.of_below k1) (Or.inl rfl)); have R1 := hide ((unhide HR).below k1)
      clear k1
      go_wp2_with fail
      refine (unhide HB k hkn _ (unhide HJ _ _ (unhide JW) (unhide K1))).mono ?_
      rintro e w2 ⟨rfl, k2⟩
      have K2 := hide ((unhide K1).trans (Kept.of_below k2) (Or.inl rfl)); have R2 := hide ((unhide R1).below k2)
      clear k2
      go_wp2_with fail
      refine (rfMul_ok bk _ _ _ _ (unhide RA k) (unhide RB k) (unhide R2)).mono ?_
      rintro e w3 ⟨rfl, h3, k3⟩
      have R3 := hide h3; have K3 := hide ((unhide K2).trans k3 (Or.inl rfl))
      clear h3 k3
      go_wp2_with fail
      refine (rfAdd_ok bk _ _ _ _ (unhide RS) (clampZ_R _) (unhide R3)).mono ?_
      rintro e w4 ⟨rfl, h4, k4⟩
      have R4 := hide h4; have K4 := hide ((unhide K3).trans k4 (Or.inl rfl))
      clear h4 k4
      go_wp2_with fail
      go_roundw
      case rel =>
        refine ⟨k + 1, by go_num, by omega, by rw [← unhide ES]; rfl, ?_, unhide K4⟩
        have hm := unhide R4
        rw [← unhide ES] at hm
        simp only [Bool.or_assoc] at hm
        show RfAt _ bk (x || (chB a b k || _ || _))
        simp only [Bool.or_assoc]
        exact hm
      case measure => simp [intOf] <;> omega
    · have hkn2 : k = n := by omega
      subst hkn2
      go_wp2_with fail
      go_ret
      exact ⟨by rw [unhide ES]; rfl, unhide HR, unhide HK⟩

end Go.Proofs.Ytnfejfdekedmhaa
