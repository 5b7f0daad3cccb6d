/- Contracts of the statements' packages: middles, whatever Middle is made of. -/
import Derived.Test.YtgikknoklnbihaaClkOK
import Derived.Test.YtgikknoklnbihaaOpenRow
namespace Go.Proofs.Ytgikknoklnbihaa
open Go.RowKit

def fM (i : Nat) : Int := if i = 0 then 1 else if i = 1 then 2 else if i = 2 then 4 else 100
theorem fM_mid {m : Int} (h : IsMid fM 4 m) : m = 3 := mid_one h ⟨2, 4, by unfold IsRk; decide, by unfold IsRk; decide, by decide⟩
theorem fM_R (i : Nat) : R64 (fM i) := by unfold fM; split; unfold R64; omega; split; unfold R64; omega; split <;> (unfold R64; omega)
/-- What Middle is held to, where it answers. -/
theorem md_at {fn : Nat} (h : MdOK fn) (ao : Option Addr) (n cap : Nat) (f : Nat → Int) (w : World) (hf : ∀ i, R64 (f i)) (h1 : 1 ≤ n) (h2 : n ≤ 64) (hc : n ≤ cap) (hs : Sr w ao n cap (iF f)) :
    Calls Try.prog fn #[.slice ao n cap] w fun e w' => ∃ m, IsMid f n m ∧ e = .returned (.tuple #[.int .i64 m, .int .i64 0]) ∧ Below w.heap.size w w' := by
  refine (h ao n cap f w hf (by omega) hc hs).mono ?_
  rintro e w' ⟨m, E, hm, rfl, k⟩
  rcases hm with ⟨_, _, rfl, hm⟩ | ⟨h, _⟩
  · exact ⟨m, hm, rfl, k⟩
  · omega
/-- Numbers laid anew. -/
theorem sr_new (w : World) (c : Array Value) (f : Nat → Int) (n : Nat) (hn : c.size = n) (hm : n ≤ 1000) (h : ∀ i, i < n → c[i]? = some (iF f i)) : Sr (w.alloc (.cells c 3)) (some ⟨w.heap.size, 0, none⟩) n n (iF f) := by
  have V := Vh.new w 3 c (iF f) (by unfold maxLen; omega) (fun i hi => h i (by omega))
  exact Or.inr ⟨_, rfl, fun i hi => by rw [Addr.add_lit, Nat.zero_add]; exact V.cell (by omega)⟩

set_option maxHeartbeats 2000000 in
theorem middles_ok (hMd : MdOK 11) (w : World) :
    Calls Try.prog 17 #[] w fun e w' => e = .returned (.bool true) ∧ Below w.heap.size w w' := by
  have S1 := hide (sr_new w #[.int .i64 1, .int .i64 2, .int .i64 4, .int .i64 100] fM 4 rfl (by omega) (fun i hi => by
    have : i = 0 ∨ i = 1 ∨ i = 2 ∨ i = 3 := by omega
    rcases this with rfl | rfl | rfl | rfl <;> rfl))
  have K1 := hide (al_below w (.cells #[.int .i64 1, .int .i64 2, .int .i64 4, .int .i64 100] 3)); have HM := hide hMd
  clear hMd
  go_enter Try.func17, Try.ntmps17
  go_wp2_with fail
  refine (md_at (unhide HM) (some ⟨w.heap.size, 0, none⟩) 4 4 fM _ fM_R (by omega) (by omega) (by omega) (unhide S1)).mono ?_
  rintro e w2 ⟨m, hm, rfl, k2⟩
  have e3 := fM_mid hm
  subst e3
  have K2 := hide ((unhide K1).trans (k2.mono (unhide K1).size))
  clear hm k2
  go_wp2_with fail
  go_ret
  exact ⟨rfl, unhide K2⟩

end Go.Proofs.Ytgikknoklnbihaa
