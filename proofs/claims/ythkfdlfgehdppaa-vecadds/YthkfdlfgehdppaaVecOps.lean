/- Contracts of package vec's reckoner: note, add, sub, mul. -/
import Derived.Test.YthkfdlfgehdppaaVecPlain
import Derived.Test.YthkfdlfgehdppaaFixMul
namespace Go.Proofs.Ythkfdlfgehdppaa
open Go.RowKit

/-- The reckoner at block b. -/
abbrev RkAt (w : World) (b : Nat) (x : Bool) : Prop := BlAt 41 w b x

set_option maxHeartbeats 400000 in
theorem note_any (b : Nat) (x : Bool) (n : Int) (y : Bool) (w : World) (h : RkAt w b x) :
    Calls Try.prog 32 #[.pointer (some ⟨b, 0, none⟩), .int .i64 n, .bool y] w fun e w' =>
      e = .returned (.int .i64 n) ∧ RkAt w' b (x || y) ∧ Kept b w w' := by
  have c0 := h.cell0; have f0 := h.free 0
  have H := hide h
  clear h
  cases x
  · go_enter Try.func32, Try.ntmps32
    go_wp2_with fail
    go_ret
    exact ⟨rfl, (unhide H).set _, kept_set _ _ _ _⟩
  · go_enter Try.func32, Try.ntmps32
    go_wp2_with fail
    go_ret
    exact ⟨rfl, (unhide H).set _, kept_set _ _ _ _⟩

/-- A function of the program is entered. -/
def Enters (k : Nat) : Prop := ∀ (args : Array Value) (w : World), (callFunc k args).run Try.prog w = .ok (.enter k args) w
theorem enters_of {k : Nat} {fn : Func} (hf : Try.prog.funcs[k]? = some fn) (hname : (fn.name == "runtime.NumGoroutine") = false) (hb : fn.body.isSome = true) : Enters k := by
  intro args w
  obtain ⟨c, hc⟩ := Option.isSome_iff_exists.1 hb
  have h1 : fn.name ≠ "runtime.NumGoroutine" := by simpa using hname
  simp [callFunc, hf, h1, hc]
theorem opAdd_in : Enters 22 := enters_of Try.func22 (by kernel_rfl) (by kernel_rfl)
theorem opSub_in : Enters 24 := enters_of Try.func24 (by kernel_rfl) (by kernel_rfl)
theorem opMul_in : Enters 26 := enters_of Try.func26 (by kernel_rfl) (by kernel_rfl)
/-- What an operation of the reckoner answers: g of its numbers, stopped; and the reckoner remembers. -/
def OpOK (k : Nat) (g : Int → Int → Int) : Prop := ∀ (b : Nat) (x : Bool) (a c : Int) (w : World), R64 a → R64 c → RkAt w b x →
  Calls Try.prog k #[.pointer (some ⟨b, 0, none⟩), .int .i64 a, .int .i64 c] w fun e w' =>
    e = .returned (.int .i64 (clampZ (g a c))) ∧ RkAt w' b (x || bentZ (g a c)) ∧ Kept b w w'

theorem opAdd_ok : OpOK 22 (fun a c => a + c) := by
  intro b x a c w ha hc h
  have HA := hide ha; have HC := hide hc; have H := hide h
  clear ha hc h
  go_enter Try.func22, Try.ntmps22
  go_wp2_with fail
  refine (add_any a c (unhide HA) (unhide HC) _).mono ?_
  rintro e w1 ⟨rfl, rfl⟩
  go_wp2_with fail
  refine (note_any b x _ _ _ (unhide H)).mono ?_
  rintro e w2 ⟨rfl, h1, h2⟩
  have H1 := hide h1; have H2 := hide h2
  clear h1 h2
  go_wp2_with fail
  go_ret
  exact ⟨rfl, unhide H1, unhide H2⟩

theorem opSub_ok : OpOK 24 (fun a c => a - c) := by
  intro b x a c w ha hc h
  have HA := hide ha; have HC := hide hc; have H := hide h
  clear ha hc h
  go_enter Try.func24, Try.ntmps24
  go_wp2_with fail
  refine (sub_any a c (unhide HA) (unhide HC) _).mono ?_
  rintro e w1 ⟨rfl, rfl⟩
  go_wp2_with fail
  refine (note_any b x _ _ _ (unhide H)).mono ?_
  rintro e w2 ⟨rfl, h1, h2⟩
  have H1 := hide h1; have H2 := hide h2
  clear h1 h2
  go_wp2_with fail
  go_ret
  exact ⟨rfl, unhide H1, unhide H2⟩

theorem opMul_ok : OpOK 26 mulQ := by
  intro b x a c w ha hc h
  have HA := hide ha; have HC := hide hc; have H := hide h
  clear ha hc h
  go_enter Try.func26, Try.ntmps26
  go_wp2_with fail
  refine (mul_any a c (unhide HA) (unhide HC) _).mono ?_
  rintro e w1 ⟨rfl, rfl⟩
  go_wp2_with fail
  refine (note_any b x _ _ _ (unhide H)).mono ?_
  rintro e w2 ⟨rfl, h1, h2⟩
  have H1 := hide h1; have H2 := hide h2
  clear h1 h2
  go_wp2_with fail
  go_ret
  exact ⟨rfl, unhide H1, unhide H2⟩

end Go.Proofs.Ythkfdlfgehdppaa
