/- Walk of the statement FixTexts: for every input it returns true, and nothing that was in memory turns. -/
import Derived.Test.YtbgljhjimcoiiaaDoorStrRef
namespace Go.Proofs.YtbgljhjimcoiiaaDoor
open Go.RowKit Go.Lib

set_option maxHeartbeats 400000 in
theorem fixTexts_walk (a : Int) (ha : R64 a) (w : World) (htab : Lib.TabIs Tryd.prog w "internal/strconv.uint64pow10" .u64 Lib.pow10Tab) :
    Calls Tryd.prog 3 #[.int .i64 a] w fun e w' => e = .returned (.bool true) ∧ Below w.heap.size w w' := by
  have Ha := hide ha; have HT := hide htab
  clear ha htab
  go_enter Tryd.func3, Tryd.ntmps3
  go_wp2_with fail
  refine (text_any a (unhide Ha) _ (unhide HT)).mono ?_
  rintro e w1 ⟨l, t1, rfl, k1⟩
  have K1 := hide k1; have T1 := hide t1
  clear k1 t1
  go_wp2_with fail
  refine (refText_any a (unhide Ha) _).mono ?_
  rintro e w2 ⟨l2, t2, rfl, k2⟩
  obtain rfl := (unhide T1).one t2
  have K2 := hide (below_two (unhide K1) k2 (unhide K1).size)
  clear k2 t2
  obtain ⟨S, eS⟩ : ∃ S : ByteArray, (⟨(minus a ++ l).toArray⟩ : ByteArray) = S := ⟨_, rfl⟩
  rw [eS]
  clear eS
  go_wp2_with fail
  go_ret
  exact ⟨rfl, unhide K2⟩

end Go.Proofs.YtbgljhjimcoiiaaDoor
