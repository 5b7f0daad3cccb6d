/- Contract of the reference: FilterRun, by induction on the list's length. -/
import Derived.Test.YtblglojbghmphaaRefStep
import Derived.Test.YtblglojbghmphaaFilEql
import Derived.Test.YtblglojbghmphaaFork
import Derived.Deep.DeepCutAuto
namespace Go.Proofs.Ytblglojbghmphaa
open Go.RowKit

/-- What FilterRun answers of the first k numbers. -/
def RunAt (s : St) (t : Tn) (ao : Option Addr) (cap : Nat) (f : Nat → Int) (k : Nat) : Prop := ∀ w : World, Rds w ao k f →
  Calls Try.prog 18 #[stV s, tnV t, .slice ao k cap] w fun e w' => e = .returned (.tuple #[stV (runS s t f k), .int .i64 (runN s t f k : Nat)]) ∧ Below w.heap.size w w'

set_option maxHeartbeats 1000000 in
theorem refRun_none (s : St) (t : Tn) (ao : Option Addr) (cap : Nat) (f : Nat → Int) : RunAt s t ao cap f 0 := by
  intro w _
  obtain ⟨w1, e1, d1, g1, k1⟩ := step_start w s t
  have c0 := d1.st.c0; have c1 := d1.st.c1; have c2 := d1.st.c2; have c3 := d1.st.c3; have c4 := d1.st.c4; have c5 := d1.st.c5; have c6 := d1.st.c6
  have b0 := g1.c0; have b1 := g1.c1; have b2 := g1.c2; have b3 := g1.c3; have b4 := g1.c4; have b5 := g1.c5; have b6 := g1.c6
  have f0 := g1.free 0; have f1 := g1.free 1; have f2 := g1.free 2; have f3 := g1.free 3; have f4 := g1.free 4; have f5 := g1.free 5; have f6 := g1.free 6
  obtain ⟨w4, e4, h4, k4⟩ := g1.put s
  have E1 := hide e1; have E4 := hide e4; have H4 := hide h4; have K4 := hide (below_of_kept k1 k4 (by omega) k1.size)
  clear e1 d1 g1 k1 e4 h4 k4
  go_enter Try.func18, Try.ntmps18
  go_upto_region 1 with fail
  rw [← unhide E1]
  go_wp2_with fail
  rw [← unhide E4]
  have p0 := (unhide H4).c0; have p1 := (unhide H4).c1; have p2 := (unhide H4).c2; have p3 := (unhide H4).c3; have p4 := (unhide H4).c4; have p5 := (unhide H4).c5; have p6 := (unhide H4).c6
  refine bodyPost_ret (v := .tuple #[stV s, .int .i64 0]) (by simp [results, Try.results18, go_sem, p0, p1, p2, p3, p4, p5, p6]) rfl ⟨rfl, unhide K4⟩

end Go.Proofs.Ytblglojbghmphaa
