/- Walk of the statement FixBack: for every input it returns true, and nothing that was in memory turns. -/
import Derived.Test.YtbgljhjimcoiiacDoorStrBack
import Derived.Test.YtbgljhjimcoiiacDoorFixAwake
namespace Go.Proofs.YtbgljhjimcoiiacDoor
open Go.RowKit Go.Lib

set_option maxHeartbeats 400000 in
theorem fixBack_walk (a : Int) (ha : R64 a) (mx : Int) (w : World) (htab : Lib.TabIs Tryd.prog w "internal/strconv.uint64pow10" .u64 Lib.pow10Tab) (hm : w.cell? ⟨2, 0, none⟩ = some (.int .i64 mx)) :
    Calls Tryd.prog 3 #[.int .i64 a] w fun e w' => e = .returned (.bool true) ∧ Below w.heap.size w w' := by
  have Ha := hide ha; have HT := hide htab; have HM := hide hm
  clear ha htab hm
  go_enter Tryd.func3, Tryd.ntmps3
  go_wp2_with fail
  refine (text_any a (unhide Ha) _ (unhide HT)).mono ?_
  rintro e w1 ⟨l, t1, rfl, k1⟩
  have K1 := hide k1
  have hm1 := (k1.cell (World.block_lt_of_cell? _ _ (unhide HM))).trans (unhide HM)
  have HM1 := hide hm1
  have HB := hide (text_back a (unhide Ha) l t1)
  clear k1 t1 hm1
  go_wp2_with fail
  refine (read_any (minus a ++ l) mx _ (unhide HM1)).mono ?_
  rintro e w2 ⟨rfl, k2⟩
  rw [(unhide HB).1, (unhide HB).2]
  have K2 := hide ((unhide K1).trans (k2.mono (unhide K1).size))
  clear k2
  go_wp2_with fail
  refine (awake_any _).mono ?_
  rintro e w3 ⟨k3, rfl, rfl⟩
  have K3 := hide (below_drewN (unhide K2) k3)
  go_wp2_with fail
  go_ret
  exact ⟨rfl, unhide K3⟩

end Go.Proofs.YtbgljhjimcoiiacDoor
