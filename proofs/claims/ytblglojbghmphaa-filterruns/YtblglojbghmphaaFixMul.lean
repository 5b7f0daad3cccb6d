/- Contract of package fix's Mul: whatever its arguments, the product to the nearest, halves up, stopped, and whether it stopped; the world as it was. -/
import Derived.Test.YtblglojbghmphaaFixWalks
namespace Go.Proofs.Ytblglojbghmphaa
open Go.RowKit

set_option maxHeartbeats 400000 in
theorem mul_any (a b : Int) (ha : R64 a) (hb : R64 b) (w : World) :
    Calls Try.prog 36 #[.int .i64 a, .int .i64 b] w fun e w' => e = .returned (.tuple #[.int .i64 (clampZ (mulQ a b)), .bool (bentZ (mulQ a b))]) ∧ w' = w := by
  have Ha := hide ha; have Hb := hide hb
  have p0 := (absmul_bd ha hb).1
  have p1 := (absmul_bd ha hb).2
  obtain ⟨x0, x1⟩ := absZ_bd ha
  obtain ⟨y0, y1⟩ := absZ_bd hb
  obtain ⟨a1, a2⟩ := ha; obtain ⟨b1, b2⟩ := hb
  go_enter Try.func36, Try.ntmps36
  go_wp2_with fail
  refine (size_any a (unhide Ha) _).mono ?_
  rintro e w1 ⟨rfl, rfl⟩
  go_wp2_with fail
  refine (size_any b (unhide Hb) _).mono ?_
  rintro e w2 ⟨rfl, rfl⟩
  go_wp2_with fail
  refine (mul64_any (absZ a) (absZ b) x0 (by omega) y0 (by omega) _).mono ?_
  rintro e w3 ⟨rfl, rfl⟩
  go_wp2_with fail
  have hq := mulQ_abs a b
  generalize hn : (!decide (a < 0) == decide (b < 0)) = n
  rw [show negZ a b = n from hn] at hq
  clear hn
  generalize absZ a * absZ b = p at *
  have HQ := hide hq
  clear hq
  refine (half_any _ _).mono ?_
  rintro e w4 ⟨rfl, rfl⟩
  obtain ⟨h0, h1⟩ := halfZ_bd n
  generalize halfZ n = h at *
  go_wp2_with (simp only [add64_0 (p % 18446744073709551616) h (by omega) h0])
  · have ho := mul_over p h p0 h0 (by assumption)
    refine (end_any n _).mono ?_
    rintro e w5 ⟨rfl, rfl⟩
    go_wp2_with fail
    go_ret2
    exact ⟨by rw [unhide HQ, (end_over n _ (by omega)).1, (end_over n _ (by omega)).2]; rfl, rfl⟩
  · have hj := mul_join p h p0 h0 (by assumption)
    rw [hj.1]
    refine (stop_any n _ (by omega) hj.2 _).mono ?_
    rintro e w5 ⟨rfl, rfl⟩
    clear hj
    go_wp2_with fail
    go_ret2
    exact ⟨by rw [unhide HQ]; rfl, rfl⟩

end Go.Proofs.Ytblglojbghmphaa
