import Derived.Test.YtdhblehhgpdpdaaNear61
import Derived.Test.YtdhblehhgpdpdaaNear45
import Derived.Test.YtdhblehhgpdpdaaNear15
import Derived.Test.YtdhblehhgpdpdaaNear24
import Derived.Test.YtdhblehhgpdpdaaNodOK
namespace Go.Proofs.Ytdhblehhgpdpdaa
open Go.RowKit
end Go.Proofs.Ytdhblehhgpdpdaa
namespace Go.Proofs.Ytdhblehhgpdpdaa
open Go.RowKit
end Go.Proofs.Ytdhblehhgpdpdaa
namespace Go.Proofs.Ytdhblehhgpdpdaa
open Go.RowKit
theorem RAt.drew {w : World} {b : Nat} {r : Rl} (h : RAt w b r) : RAt w.drew b r := h
end Go.Proofs.Ytdhblehhgpdpdaa
namespace Go.Proofs.Ytdhblehhgpdpdaa
open Go.RowKit
end Go.Proofs.Ytdhblehhgpdpdaa
namespace Go.Proofs.Ytdhblehhgpdpdaa
open Go.RowKit
end Go.Proofs.Ytdhblehhgpdpdaa
namespace Go.Proofs.Ytdhblehhgpdpdaa
open Go.RowKit
theorem enter_pisNode (x : Value) (w : World) : (callFunc 11 #[x]).run Try.prog w = .ok (.enter 11 #[x]) w := by go_simp
theorem isNode_any (id : Int) (w : World) : Calls Try.prog 11 #[.int .i64 id] w fun e w' => e = .returned (.bool (!noN id)) ∧ Below w.heap.size w w' := by
 unfold noN
 by_cases h1 : id < 0
 ·rw [decide_eq_true h1, Bool.true_or]
  refine enterF Try.func11 rfl 9 rfl (of_decide_eq_true rfl) (fun A hs hd hb => ?_)
  have b0 := hb 0 _ rfl
  clear hb
  refine c_rs (m_start ?_)
  refine Yp ?_
  refine l_nx ?_
  refine c_rs ?_
  refine Yp ?_
  refine Yq (run_geqI (b := false) _ _ rfl (Ye rfl) (ev_const _ _) (decide_eq_false (by omega)) _) ?_
  refine Yp ?_
  iterate 2 refine Yu ?_
  refine Yq (run_pickF _ _ _ rfl (Ye rfl) (ev_const _ _) _) ?_
  refine Yp ?_
  refine l_nx ?_
  exact c_ret (ret_of ((defL _ _).trans hd) (res_t rfl (Ye rfl)) ⟨rfl, Below.refl _ _⟩)
 ·by_cases h2 : 3 < id
  ·rw [decide_eq_false h1, decide_eq_true h2, Bool.or_true]
   refine enterF Try.func11 rfl 9 rfl (of_decide_eq_true rfl) (fun A hs hd hb => ?_)
   have b0 := hb 0 _ rfl
   clear hb
   refine c_rs (m_start ?_)
   refine Yp ?_
   refine l_nx ?_
   refine c_rs ?_
   refine Yp ?_
   refine Yq (run_geqI (b := true) _ _ rfl (Ye rfl) (ev_const _ _) (decide_eq_true (by omega)) _) ?_
   iterate 2 refine Yp ?_
   refine Yq (run_lssI (b := false) _ _ rfl (Ye rfl) (ev_const _ _) (decide_eq_false (by omega)) _) ?_
   refine Yq (run_pickT' _ _ _ rfl (Ye rfl) (Ye rfl) _) ?_
   refine Yp ?_
   refine l_nx ?_
   exact c_ret (ret_of ((defL _ _).trans hd) (res_t rfl (Ye rfl)) ⟨rfl, Below.refl _ _⟩)
  ·rw [decide_eq_false h1, decide_eq_false h2, Bool.or_false]
   refine enterF Try.func11 rfl 9 rfl (of_decide_eq_true rfl) (fun A hs hd hb => ?_)
   have b0 := hb 0 _ rfl
   clear hb
   refine c_rs (m_start ?_)
   refine Yp ?_
   refine l_nx ?_
   refine c_rs ?_
   refine Yp ?_
   refine Yq (run_geqI (b := true) _ _ rfl (Ye rfl) (ev_const _ _) (decide_eq_true (by omega)) _) ?_
   iterate 2 refine Yp ?_
   refine Yq (run_lssI (b := true) _ _ rfl (Ye rfl) (ev_const _ _) (decide_eq_true (by omega)) _) ?_
   refine Yq (run_pickT' _ _ _ rfl (Ye rfl) (Ye rfl) _) ?_
   refine Yp ?_
   refine l_nx ?_
   exact c_ret (ret_of ((defL _ _).trans hd) (res_t rfl (Ye rfl)) ⟨rfl, Below.refl _ _⟩)
end Go.Proofs.Ytdhblehhgpdpdaa
namespace Go.Proofs.Ytdhblehhgpdpdaa
open Go.RowKit
section
variable {f : Operand → Value} {o : Oper} {x : Operand} {b off : Nat}
end
end Go.Proofs.Ytdhblehhgpdpdaa
