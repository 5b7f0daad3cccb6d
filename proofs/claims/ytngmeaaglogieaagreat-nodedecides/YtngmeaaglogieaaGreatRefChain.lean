/- Contracts: the reference's Reckon.div, chain. -/
import Derived.Test.YtngmeaaglogieaaGreatJoinI
import Derived.Test.YtngmeaaglogieaaGreatMatFacS
namespace Go.Proofs.YtngmeaaglogieaaGreat
open Go.RowKit

set_option maxHeartbeats 400000 in
theorem rfDiv_ok (b : Nat) (x : Bool) (a c : Int) (w : World) (ha : R64 a) (hc : R64 c) (h : RfAt w b x) :
    Calls Tryz.prog 66 #[.pointer (some ⟨b, 0, none⟩), .int .i64 a, .int .i64 c] w fun e w' =>
      e = .returned (.int .i64 (divV a c)) ∧ RfAt w' b (x || divB a c) ∧ Kept b w w' := by
  have D : Calls Tryz.prog 86 #[.int .i64 a, .int .i64 c] w fun e w' => e = .returned (.tuple #[.int .i64 (divV a c), .bool (divB a c)]) ∧ Below w.heap.size w w' := by
    by_cases hz : c = 0
    · subst hz; exact (refDiv_zero a w).mono fun e w' h => ⟨h.1, by rw [h.2]; exact Below.refl _ _⟩
    · exact refDiv_any a c ha hc hz w
  have DD := hide D
  have H := hide h
  clear ha hc h D
  go_enter Tryz.func66, Tryz.ntmps66
  go_wp2_with fail
  refine (unhide DD).mono ?_
  rintro e w1 ⟨rfl, k1⟩
  have H1 := hide ((unhide H).below k1); have K1 := hide k1
  clear k1
  go_wp2_with fail
  refine (see_any b x _ _ _ (unhide H1)).mono ?_
  rintro e w2 ⟨rfl, h2, k2⟩
  have H2 := hide h2; have K2 := hide ((Kept.of_below (z := b) (unhide K1)).trans k2 (Or.inl rfl))
  clear h2 k2
  go_wp2_with fail
  go_ret
  exact ⟨rfl, unhide H2, unhide K2⟩

/-- A function of the program is entered. -/
def EntersR (k : Nat) : Prop := ∀ (args : Array Value) (w : World), (callFunc k args).run Tryz.prog w = .ok (.enter k args) w
theorem entersR_of {k : Nat} {fn : Func} (hf : Tryz.prog.funcs[k]? = some fn) (hname : (fn.name == "runtime.NumGoroutine") = false) (hb : fn.body.isSome = true) : EntersR k := by
  intro args w
  obtain ⟨c, hc⟩ := Option.isSome_iff_exists.1 hb
  have h1 : fn.name ≠ "runtime.NumGoroutine" := by simpa using hname
  simp [callFunc, hf, h1, hc]

end Go.Proofs.YtngmeaaglogieaaGreat
