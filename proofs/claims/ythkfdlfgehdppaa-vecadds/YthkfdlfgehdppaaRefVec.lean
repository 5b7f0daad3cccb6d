/- Contracts of the reference's Reckon: see, add, sub, mul. -/
import Derived.Test.YthkfdlfgehdppaaVecPlain
import Derived.Test.YthkfdlfgehdppaaBigRef
import Derived.Test.YthkfdlfgehdppaaLawsG
namespace Go.Proofs.Ythkfdlfgehdppaa
open Go.RowKit

/-- The reference's reckoner at block b. -/
abbrev RfAt (w : World) (b : Nat) (x : Bool) : Prop := BlAt 39 w b x

set_option maxHeartbeats 400000 in
theorem see_any (b : Nat) (x : Bool) (n : Int) (y : Bool) (w : World) (h : RfAt w b x) :
    Calls Try.prog 35 #[.pointer (some ⟨b, 0, none⟩), .int .i64 n, .bool y] w fun e w' =>
      e = .returned (.int .i64 n) ∧ RfAt w' b (x || y) ∧ Kept b w w' := by
  have c0 := h.cell0; have f0 := h.free 0
  have H := hide h
  clear h
  cases y
  · go_enter Try.func35, Try.ntmps35
    go_wp2_with fail
    go_ret
    refine ⟨rfl, ?_, kept_refl _ _⟩
    rw [Bool.or_false]; exact unhide H
  · go_enter Try.func35, Try.ntmps35
    go_wp2_with fail
    go_ret
    refine ⟨rfl, ?_, kept_set _ _ _ _⟩
    rw [Bool.or_true]; exact (unhide H).set _

/-- What an operation of the reference's reckoner answers. -/
def RfOK (k : Nat) (g : Int → Int → Int) : Prop := ∀ (b : Nat) (x : Bool) (a c : Int) (w : World), R64 a → R64 c → RfAt w b x →
  Calls Try.prog k #[.pointer (some ⟨b, 0, none⟩), .int .i64 a, .int .i64 c] w fun e w' =>
    e = .returned (.int .i64 (clampZ (g a c))) ∧ RfAt w' b (x || bentZ (g a c)) ∧ Kept b w w'

set_option maxHeartbeats 400000 in
theorem rfAdd_ok : RfOK 23 (fun a c => a + c) := by
  intro b x a c w ha hc h
  have HA := hide ha; have HC := hide hc; have H := hide h
  clear ha hc h
  go_enter Try.func23, Try.ntmps23
  go_wp2_with fail
  refine (refAdd_any a c (unhide HA) (unhide HC) _).mono ?_
  rintro e w1 ⟨rfl, k1⟩
  have H1 := hide ((unhide H).below k1); have K1 := hide k1
  clear k1
  go_wp2_with fail
  refine (see_any b x _ _ _ (unhide H1)).mono ?_
  rintro e w2 ⟨rfl, h2, k2⟩
  have H2 := hide h2; have K2 := hide ((Kept.of_below (z := b) (unhide K1)).trans k2 (Or.inl rfl))
  clear h2 k2
  go_wp2_with fail
  go_ret
  exact ⟨rfl, unhide H2, unhide K2⟩

set_option maxHeartbeats 400000 in
theorem rfSub_ok : RfOK 25 (fun a c => a - c) := by
  intro b x a c w ha hc h
  have HA := hide ha; have HC := hide hc; have H := hide h
  clear ha hc h
  go_enter Try.func25, Try.ntmps25
  go_wp2_with fail
  refine (refSub_any a c (unhide HA) (unhide HC) _).mono ?_
  rintro e w1 ⟨rfl, k1⟩
  have H1 := hide ((unhide H).below k1); have K1 := hide k1
  clear k1
  go_wp2_with fail
  refine (see_any b x _ _ _ (unhide H1)).mono ?_
  rintro e w2 ⟨rfl, h2, k2⟩
  have H2 := hide h2; have K2 := hide ((Kept.of_below (z := b) (unhide K1)).trans k2 (Or.inl rfl))
  clear h2 k2
  go_wp2_with fail
  go_ret
  exact ⟨rfl, unhide H2, unhide K2⟩

set_option maxHeartbeats 400000 in
theorem rfMul_ok : RfOK 27 mulQ := by
  intro b x a c w ha hc h
  have HA := hide ha; have HC := hide hc; have H := hide h
  clear ha hc h
  go_enter Try.func27, Try.ntmps27
  go_wp2_with fail
  refine (refMul_any a c (unhide HA) (unhide HC) _).mono ?_
  rintro e w1 ⟨rfl, k1⟩
  have H1 := hide ((unhide H).below k1); have K1 := hide k1
  clear k1
  go_wp2_with fail
  refine (see_any b x _ _ _ (unhide H1)).mono ?_
  rintro e w2 ⟨rfl, h2, k2⟩
  have H2 := hide h2; have K2 := hide ((Kept.of_below (z := b) (unhide K1)).trans k2 (Or.inl rfl))
  clear h2 k2
  go_wp2_with fail
  go_ret
  exact ⟨rfl, unhide H2, unhide K2⟩

end Go.Proofs.Ythkfdlfgehdppaa
