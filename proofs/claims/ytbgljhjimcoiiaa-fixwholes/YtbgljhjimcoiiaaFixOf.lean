/- Contracts of package fix's Of, Floor and overNought: what each call returns, whatever its argument, the world as it was. -/
import Derived.Test.YtbgljhjimcoiiaaFixWalks
namespace Go.Proofs.Ytbgljhjimcoiiaa
open Go.RowKit

theorem floor_any (a : Int) (w : World) :
    Calls Try.prog 20 #[.int .i64 a] w fun e w' => e = .returned (.int .i64 (a / 4294967296)) ∧ w' = w := by
  go_enter Try.func20, Try.ntmps20
  go_wp2
  go_ret
  exact ⟨rfl, rfl⟩

theorem of_any (n : Int) (hn : R64 n) (w : World) :
    Calls Try.prog 18 #[.int .i64 n] w fun e w' => e = .returned (.tuple #[.int .i64 (clampZ (n * 4294967296)), .bool (bentZ (n * 4294967296))]) ∧ w' = w := by
  by_cases h : R64 (n * 4294967296)
  · have e1 := hide (clampZ_in h)
    have e2 := hide (bentZ_in h)
    obtain ⟨h1, h2⟩ := h
    have t : (n * 4294967296 / 4294967296 != n) = false := by simp
    obtain ⟨a1, a2⟩ := hn
    go_enter Try.func18, Try.ntmps18
    go_wp2
    go_ret2
    exact ⟨by rw [unhide e1, unhide e2]; rfl, rfl⟩
  · obtain ⟨a1, a2⟩ := hn
    have t : (wrap64 (n * 4294967296) / 4294967296 != n) = true := by unfold R64 at h; simp [wrap64]; omega
    by_cases hn : n < 0
    · have hlt : n * 4294967296 < -9223372036854775808 := by unfold R64 at h; omega
      have e1 := hide (clampZ_down hlt)
      have e2 := hide (bentZ_down hlt)
      clear h hlt
      go_enter Try.func18, Try.ntmps18
      go_wp2
      go_ret2
      exact ⟨by rw [unhide e1, unhide e2]; rfl, rfl⟩
    · have hlt : 9223372036854775807 < n * 4294967296 := by unfold R64 at h; omega
      have e1 := hide (clampZ_up hlt)
      have e2 := hide (bentZ_up hlt)
      clear h hlt
      go_enter Try.func18, Try.ntmps18
      go_wp2
      go_ret2
      exact ⟨by rw [unhide e1, unhide e2]; rfl, rfl⟩

end Go.Proofs.Ytbgljhjimcoiiaa
