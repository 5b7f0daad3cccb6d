/- Joined: RefNod12, MsgPlain. -/
import Derived.Test.YtngmeaaglogieabNear23
import Derived.Test.YtngmeaaglogieabNear15
import Derived.Test.YtngmeaaglogieabNear28
import Derived.Test.YtngmeaaglogieabNear33
namespace Go.Proofs.Ytngmeaaglogieab
open Go.RowKit

theorem enter_samev (x y : Value) (w : World) : (callFunc 22 #[x, y]).run Try.prog w = .ok (.enter 22 #[x, y]) w := by go_simp
set_option maxHeartbeats 2000000 in
theorem refSameNode_any (n : Nd) (ao bo : Option Addr) (c c2 : Nat) (w : World) (ha : Sr w ao n.vA.length c (tF (bA n))) (hb : Sr w bo n.vA.length c2 (tF (bA n))) (hl : n.vA.length ≤ 140737488351232) :
    Calls Try.prog 9 #[ndV n (.slice ao n.vA.length c), ndV n (.slice bo n.vA.length c2)] w fun e w' => e = .returned (.bool true) ∧ Below w.heap.size w w' := by
  refine enterF Try.func9 rfl 80 rfl (of_decide_eq_true rfl) (fun A hs hd hb => ?_)
  have b0 : A.eval (.tmp 0) = ndV n (.slice ao n.vA.length c) := hb 0 _ rfl
  have b1 : A.eval (.tmp 1) = ndV n (.slice bo n.vA.length c2) := hb 1 _ rfl
  clear hb
  refine c_rs (m_start ?_)
  refine m_do rfl (wanted_rd rfl) (fun K hK => ?_)
  refine wp_boxG _ _ _ rfl (ev_out rfl b0) (of_decide_eq_true rfl) ?_
  intro w1 m1 k1 z1
  have sa1 := ha.below k1
  have sb1 := hb.below k1
  refine hK _ _ ?_
  clear hK K
  refine m_do rfl (wanted_rd rfl) (fun K hK => ?_)
  refine wp_boxG _ _ _ rfl (ev_out rfl b1) (of_decide_eq_true rfl) ?_
  intro w2 m2 k2 z2
  have ma2 := m1.below k2
  have sa2 := sa1.below k2
  have sb2 := sb1.below k2
  refine hK _ _ ?_
  clear hK K
  refine m_mv rfl (wanted_rd rfl) (run_assign _ rfl (ev_const _ _) _) ?_
  refine l_nx ?_
  refine c_rs ?_
  refine m_mv rfl (wanted_rd rfl) (fldNd0 rfl (ev_in rfl (by omega)) _) ?_
  refine m_mv rfl (wanted_rd rfl) (run_lod1 (v := .int .i64 n.id) _ _ rfl oneI (ev_in rfl (by omega)) ma2 (by decide) rfl) ?_
  refine m_mv rfl (wanted_rd rfl) (fldNd0 rfl (ev_in rfl (by omega)) _) ?_
  refine m_mv rfl (wanted_rd rfl) (run_lod1 (v := .int .i64 n.id) _ _ rfl oneI (ev_in rfl (by omega)) m2 (by decide) rfl) ?_
  refine m_mv rfl (wanted_rd rfl) (run_eqlI (b := true) _ _ rfl (ev_in rfl (by omega)) (ev_in rfl (by omega)) (decide_eq_true rfl) _) ?_
  refine m_mv rfl (wanted_rd rfl) (run_move _ rfl (ev_in rfl (by omega)) _) ?_
  refine m_mv rfl (wanted_g (j := 5) rfl rfl rfl (ev_in rfl (by omega))) (fldNd1 rfl (ev_in rfl (by omega)) _) ?_
  refine m_mv rfl (wanted_g (j := 5) rfl rfl rfl (ev_in rfl (by omega))) (run_lod1 (v := .int .i64 n.fr) _ _ rfl oneI (ev_in rfl (by omega)) ma2 (by decide) rfl) ?_
  refine m_mv rfl (wanted_g (j := 5) rfl rfl rfl (ev_in rfl (by omega))) (fldNd1 rfl (ev_in rfl (by omega)) _) ?_
  refine m_mv rfl (wanted_g (j := 5) rfl rfl rfl (ev_in rfl (by omega))) (run_lod1 (v := .int .i64 n.fr) _ _ rfl oneI (ev_in rfl (by omega)) m2 (by decide) rfl) ?_
  refine m_mv rfl (wanted_g (j := 5) rfl rfl rfl (ev_in rfl (by omega))) (run_eqlI (b := true) _ _ rfl (ev_in rfl (by omega)) (ev_in rfl (by omega)) (decide_eq_true rfl) _) ?_
  refine m_mv rfl (wanted_rd rfl) (run_pickT' _ _ _ rfl (ev_in rfl (by omega)) (ev_in rfl (by omega)) _) ?_
  refine m_mv rfl (wanted_rd rfl) (run_move _ rfl (ev_in rfl (by omega)) _) ?_
  refine m_mv rfl (wanted_g (j := 12) rfl rfl rfl (ev_in rfl (by omega))) (fldNd2 rfl (ev_in rfl (by omega)) _) ?_
  refine m_mv rfl (wanted_g (j := 12) rfl rfl rfl (ev_in rfl (by omega))) (run_loadPe _ _ rfl manyTn (ev_in rfl (by omega)) ma2 (by decide) (ndF_tn _ _)) ?_
  refine m_mv rfl (wanted_g (j := 12) rfl rfl rfl (ev_in rfl (by omega))) (fldNd2 rfl (ev_in rfl (by omega)) _) ?_
  refine m_mv rfl (wanted_g (j := 12) rfl rfl rfl (ev_in rfl (by omega))) (run_loadPe _ _ rfl manyTn (ev_in rfl (by omega)) m2 (by decide) (ndF_tn _ _)) ?_
  refine m_mv rfl (wanted_g (j := 12) rfl rfl rfl (ev_in rfl (by omega))) (run_eqlTn _ _ rfl (ev_in rfl (by omega)) (ev_in rfl (by omega)) _) ?_
  refine m_mv rfl (wanted_rd rfl) (run_pickT' _ _ _ rfl (ev_in rfl (by omega)) (ev_in rfl (by omega)) _) ?_
  refine m_mv rfl (wanted_rd rfl) (run_move _ rfl (ev_in rfl (by omega)) _) ?_
  refine m_mv rfl (wanted_g (j := 19) rfl rfl rfl (ev_in rfl (by omega))) (fldNd3 rfl (ev_in rfl (by omega)) _) ?_
  refine m_mv rfl (wanted_g (j := 19) rfl rfl rfl (ev_in rfl (by omega))) (run_loadPe _ _ rfl manySt3 (ev_in rfl (by omega)) ma2 (by decide) (ndF_axs _ _)) ?_
  refine m_mv rfl (wanted_g (j := 19) rfl rfl rfl (ev_in rfl (by omega))) (fldNd3 rfl (ev_in rfl (by omega)) _) ?_
  refine m_mv rfl (wanted_g (j := 19) rfl rfl rfl (ev_in rfl (by omega))) (run_loadPe _ _ rfl manySt3 (ev_in rfl (by omega)) m2 (by decide) (ndF_axs _ _)) ?_
  refine m_mv rfl (wanted_g (j := 19) rfl rfl rfl (ev_in rfl (by omega))) (run_eqlSt3 _ _ rfl (ev_in rfl (by omega)) (ev_in rfl (by omega)) _) ?_
  refine m_mv rfl (wanted_rd rfl) (run_pickT' _ _ _ rfl (ev_in rfl (by omega)) (ev_in rfl (by omega)) _) ?_
  refine m_mv rfl (wanted_rd rfl) (run_move _ rfl (ev_in rfl (by omega)) _) ?_
  refine m_mv rfl (wanted_g (j := 26) rfl rfl rfl (ev_in rfl (by omega))) (fldNd4 rfl (ev_in rfl (by omega)) _) ?_
  refine m_mv rfl (wanted_g (j := 26) rfl rfl rfl (ev_in rfl (by omega))) (run_loadPe _ _ rfl manyRl (ev_in rfl (by omega)) ma2 (by decide) (ndF_rl _ _)) ?_
  refine m_mv rfl (wanted_g (j := 26) rfl rfl rfl (ev_in rfl (by omega))) (fldNd4 rfl (ev_in rfl (by omega)) _) ?_
  refine m_mv rfl (wanted_g (j := 26) rfl rfl rfl (ev_in rfl (by omega))) (run_loadPe _ _ rfl manyRl (ev_in rfl (by omega)) m2 (by decide) (ndF_rl _ _)) ?_
  refine m_mv rfl (wanted_g (j := 26) rfl rfl rfl (ev_in rfl (by omega))) (run_eqlRl _ _ rfl (ev_in rfl (by omega)) (ev_in rfl (by omega)) _) ?_
  refine m_mv rfl (wanted_rd rfl) (run_pickT' _ _ _ rfl (ev_in rfl (by omega)) (ev_in rfl (by omega)) _) ?_
  refine m_mv rfl (wanted_rd rfl) (run_move _ rfl (ev_in rfl (by omega)) _) ?_
  refine m_mv rfl (wanted_g (j := 33) rfl rfl rfl (ev_in rfl (by omega))) (fldNd5 rfl (ev_in rfl (by omega)) _) ?_
  refine m_mv rfl (wanted_g (j := 33) rfl rfl rfl (ev_in rfl (by omega))) (run_loadPe _ _ rfl many43 (ev_in rfl (by omega)) ma2 (by decide) (ndF_dis _ _)) ?_
  refine m_mv rfl (wanted_g (j := 33) rfl rfl rfl (ev_in rfl (by omega))) (fldNd5 rfl (ev_in rfl (by omega)) _) ?_
  refine m_mv rfl (wanted_g (j := 33) rfl rfl rfl (ev_in rfl (by omega))) (run_loadPe _ _ rfl many43 (ev_in rfl (by omega)) m2 (by decide) (ndF_dis _ _)) ?_
  refine m_mv rfl (wanted_g (j := 33) rfl rfl rfl (ev_in rfl (by omega))) (run_eql43 _ _ rfl (ev_in rfl (by omega)) (ev_in rfl (by omega)) _) ?_
  refine m_mv rfl (wanted_rd rfl) (run_pickT' _ _ _ rfl (ev_in rfl (by omega)) (ev_in rfl (by omega)) _) ?_
  refine m_mv rfl (wanted_rd rfl) (run_move _ rfl (ev_in rfl (by omega)) _) ?_
  refine m_mv rfl (wanted_g (j := 40) rfl rfl rfl (ev_in rfl (by omega))) (fldNd6 rfl (ev_in rfl (by omega)) _) ?_
  refine m_mv rfl (wanted_g (j := 40) rfl rfl rfl (ev_in rfl (by omega))) (run_loadPe _ _ rfl many4 (ev_in rfl (by omega)) ma2 (by decide) (ndF_hes _ _)) ?_
  refine m_mv rfl (wanted_g (j := 40) rfl rfl rfl (ev_in rfl (by omega))) (fldNd6 rfl (ev_in rfl (by omega)) _) ?_
  refine m_mv rfl (wanted_g (j := 40) rfl rfl rfl (ev_in rfl (by omega))) (run_loadPe _ _ rfl many4 (ev_in rfl (by omega)) m2 (by decide) (ndF_hes _ _)) ?_
  refine m_mv rfl (wanted_g (j := 40) rfl rfl rfl (ev_in rfl (by omega))) (run_eqlI4 _ _ rfl (ev_in rfl (by omega)) (ev_in rfl (by omega)) _) ?_
  refine m_mv rfl (wanted_rd rfl) (run_pickT' _ _ _ rfl (ev_in rfl (by omega)) (ev_in rfl (by omega)) _) ?_
  refine m_mv rfl (wanted_rd rfl) (run_move _ rfl (ev_in rfl (by omega)) _) ?_
  refine m_mv rfl (wanted_g (j := 47) rfl rfl rfl (ev_in rfl (by omega))) (fldNd7 rfl (ev_in rfl (by omega)) _) ?_
  refine m_mv rfl (wanted_g (j := 47) rfl rfl rfl (ev_in rfl (by omega))) (run_loadPe _ _ rfl many43 (ev_in rfl (by omega)) ma2 (by decide) (ndF_ags _ _)) ?_
  refine m_mv rfl (wanted_g (j := 47) rfl rfl rfl (ev_in rfl (by omega))) (fldNd7 rfl (ev_in rfl (by omega)) _) ?_
  refine m_mv rfl (wanted_g (j := 47) rfl rfl rfl (ev_in rfl (by omega))) (run_loadPe _ _ rfl many43 (ev_in rfl (by omega)) m2 (by decide) (ndF_ags _ _)) ?_
  refine m_mv rfl (wanted_g (j := 47) rfl rfl rfl (ev_in rfl (by omega))) (run_eql43 _ _ rfl (ev_in rfl (by omega)) (ev_in rfl (by omega)) _) ?_
  refine m_mv rfl (wanted_rd rfl) (run_pickT' _ _ _ rfl (ev_in rfl (by omega)) (ev_in rfl (by omega)) _) ?_
  refine m_mv rfl (wanted_rd rfl) (run_move _ rfl (ev_in rfl (by omega)) _) ?_
  refine m_mv rfl (wanted_g (j := 54) rfl rfl rfl (ev_in rfl (by omega))) (fldNd8 rfl (ev_in rfl (by omega)) _) ?_
  refine m_mv rfl (wanted_g (j := 54) rfl rfl rfl (ev_in rfl (by omega))) (run_loadPe _ _ rfl many3 (ev_in rfl (by omega)) ma2 (by decide) (ndF_uss _ _)) ?_
  refine m_mv rfl (wanted_g (j := 54) rfl rfl rfl (ev_in rfl (by omega))) (fldNd8 rfl (ev_in rfl (by omega)) _) ?_
  refine m_mv rfl (wanted_g (j := 54) rfl rfl rfl (ev_in rfl (by omega))) (run_loadPe _ _ rfl many3 (ev_in rfl (by omega)) m2 (by decide) (ndF_uss _ _)) ?_
  refine m_mv rfl (wanted_g (j := 54) rfl rfl rfl (ev_in rfl (by omega))) (run_eqlI3 _ _ rfl (ev_in rfl (by omega)) (ev_in rfl (by omega)) _) ?_
  refine m_mv rfl (wanted_rd rfl) (run_pickT' _ _ _ rfl (ev_in rfl (by omega)) (ev_in rfl (by omega)) _) ?_
  refine m_mv rfl (wanted_rd rfl) (run_move _ rfl (ev_in rfl (by omega)) _) ?_
  refine m_mv rfl (wanted_g (j := 61) rfl rfl rfl (ev_in rfl (by omega))) (fldNd9 rfl (ev_in rfl (by omega)) _) ?_
  refine m_mv rfl (wanted_g (j := 61) rfl rfl rfl (ev_in rfl (by omega))) (run_lod1 (v := .int .i64 n.dg) _ _ rfl oneI (ev_in rfl (by omega)) ma2 (by decide) rfl) ?_
  refine m_mv rfl (wanted_g (j := 61) rfl rfl rfl (ev_in rfl (by omega))) (fldNd9 rfl (ev_in rfl (by omega)) _) ?_
  refine m_mv rfl (wanted_g (j := 61) rfl rfl rfl (ev_in rfl (by omega))) (run_lod1 (v := .int .i64 n.dg) _ _ rfl oneI (ev_in rfl (by omega)) m2 (by decide) rfl) ?_
  refine m_mv rfl (wanted_g (j := 61) rfl rfl rfl (ev_in rfl (by omega))) (run_eqlI (b := true) _ _ rfl (ev_in rfl (by omega)) (ev_in rfl (by omega)) (decide_eq_true rfl) _) ?_
  refine m_mv rfl (wanted_rd rfl) (run_pickT' _ _ _ rfl (ev_in rfl (by omega)) (ev_in rfl (by omega)) _) ?_
  refine m_mv rfl (wanted_rd rfl) (run_move _ rfl (ev_in rfl (by omega)) _) ?_
  refine m_mv rfl (wanted_g (j := 68) rfl rfl rfl (ev_in rfl (by omega))) (fldNd10 rfl (ev_in rfl (by omega)) _) ?_
  refine m_mv rfl (wanted_g (j := 68) rfl rfl rfl (ev_in rfl (by omega))) (run_loadPe _ _ rfl manyVd (ev_in rfl (by omega)) ma2 (by decide) (ndF_vd _ _)) ?_
  refine m_mv rfl (wanted_g (j := 68) rfl rfl rfl (ev_in rfl (by omega))) (fldNd10 rfl (ev_in rfl (by omega)) _) ?_
  refine m_mv rfl (wanted_g (j := 68) rfl rfl rfl (ev_in rfl (by omega))) (run_loadPe _ _ rfl manyVd (ev_in rfl (by omega)) m2 (by decide) (ndF_vd _ _)) ?_
  refine m_do rfl (wanted_g (j := 68) rfl rfl rfl (ev_in rfl (by omega))) (fun K hK => ?_)
  refine wp_call2 _ 22 _ _ _ rfl (ev_in rfl (by omega)) (ev_in rfl (by omega)) (enter_samev _ _ _) (sameVerdict_ok n.vX n.vS ao bo n.vA.length c c2 (bA n) (bA n) _ (by have := hl; omega) sa2.rd sb2.rd (fun _ _ => rfl)) ?_
  rintro e w3 ⟨rfl, k3⟩
  refine ⟨_, rfl, ?_⟩
  refine hK _ _ ?_
  clear hK K
  refine m_mv rfl (wanted_rd rfl) (run_pickT' _ _ _ rfl (ev_in rfl (by omega)) (ev_in rfl (by omega)) _) ?_
  refine m_mv rfl (wanted_rd rfl) (run_assign _ rfl (ev_in rfl (by omega)) _) ?_
  refine l_nx ?_
  refine c_ret (ret_of ((defL _ _).trans hd) (res_t rfl (ev_in rfl (by omega))) ⟨rfl, (k1.trans (k2.mono (by omega))).trans (k3.mono (by omega))⟩)

end Go.Proofs.Ytngmeaaglogieab

namespace Go.Proofs.Ytngmeaaglogieab
open Go.RowKit

/-- A message as a value. -/
def msV (K F R : Int) (v : Value) : Value := .agg #[.int .i64 K, .int .i64 F, .int .i64 R, v]
/-- The block of a message's variable. -/
def MgAt (w : World) (b : Nat) (K F R : Int) (v : Value) : Prop := w.heap[b]? = some (.cells #[.int .i64 K, .int .i64 F, .int .i64 R, v] 57 (0, 0))
section
variable {w w' : World} {b : Nat} {K F R : Int} {v : Value}
theorem MgAt.cell0 (h : MgAt w b K F R v) : w.cell? ⟨b, 0, none⟩ = some (.int .i64 K) := by unfold MgAt at h; unfold World.cell?; rw [h]; rfl
theorem MgAt.cell1 (h : MgAt w b K F R v) : w.cell? ⟨b, 1, none⟩ = some (.int .i64 F) := by unfold MgAt at h; unfold World.cell?; rw [h]; rfl
theorem MgAt.cell2 (h : MgAt w b K F R v) : w.cell? ⟨b, 2, none⟩ = some (.int .i64 R) := by unfold MgAt at h; unfold World.cell?; rw [h]; rfl
theorem MgAt.cell3 (h : MgAt w b K F R v) : w.cell? ⟨b, 3, none⟩ = some v := by unfold MgAt at h; unfold World.cell?; rw [h]; rfl
theorem MgAt.free (h : MgAt w b K F R v) (i : Nat) : w.frozen? ⟨b, i, none⟩ = false := by unfold MgAt at h; simp [World.frozen?, h]
theorem MgAt.lt (h : MgAt w b K F R v) : b < w.heap.size := lt_of_block h
theorem MgAt.same (h : MgAt w b K F R v) (e : w'.heap[b]? = w.heap[b]?) : MgAt w' b K F R v := e.trans h
theorem MgAt.below (h : MgAt w b K F R v) (k : Below w.heap.size w w') : MgAt w' b K F R v := h.same (k.block b h.lt)
theorem MgAt.under {B : Nat} (h : MgAt w b K F R v) (k : Below B w w') (hb : b < B) : MgAt w' b K F R v := h.same (k.block b hb)
theorem MgAt.kept {z : Nat} (h : MgAt w b K F R v) (k : Kept z w w') (hz : b ≠ z) : MgAt w' b K F R v := h.same (k.block b h.lt hz)
theorem MgAt.new (w : World) (K F R : Int) (v : Value) : MgAt (w.alloc (.cells #[.int .i64 K, .int .i64 F, .int .i64 R, v] 57)) w.heap.size K F R v := by
  unfold MgAt
  show (w.heap.push _)[w.heap.size]? = _
  rw [Array.getElem?_push_size]
theorem MgAt.put (h : MgAt w b K F R v) (K' F' R' : Int) (u : Value) :
    ∃ w', w' = (((w.setCell ⟨b, 0, none⟩ (.int .i64 K')).setCell ⟨b, 1, none⟩ (.int .i64 F')).setCell ⟨b, 2, none⟩ (.int .i64 R')).setCell ⟨b, 3, none⟩ u ∧ MgAt w' b K' F' R' u ∧ Kept b w w' := by
  refine ⟨_, rfl, ?_, (((kept_set w b 0 _).trans (kept_set _ b 1 _) (Or.inl rfl)).trans (kept_set _ b 2 _) (Or.inl rfl)).trans (kept_set _ b 3 _) (Or.inl rfl)⟩
  unfold MgAt at h ⊢
  have h1 := heap_setCell_same w b 0 _ _ (.int .i64 K') h
  have h2 := heap_setCell_same _ b 1 _ _ (.int .i64 F') h1
  have h3 := heap_setCell_same _ b 2 _ _ (.int .i64 R') h2
  exact heap_setCell_same _ b 3 _ _ u h3
theorem MgAt.put2 (h : MgAt w b K F R v) (R' : Int) : ∃ w', w' = w.setCell ⟨b, 2, none⟩ (.int .i64 R') ∧ MgAt w' b K F R' v ∧ Kept b w w' := by
  refine ⟨_, rfl, ?_, kept_set w b 2 _⟩
  unfold MgAt at h ⊢
  exact heap_setCell_same w b 2 _ _ (.int .i64 R') h
theorem MgAt.put3 (h : MgAt w b K F R v) (u : Value) : ∃ w', w' = w.setCell ⟨b, 3, none⟩ u ∧ MgAt w' b K F R u ∧ Kept b w w' := by
  refine ⟨_, rfl, ?_, kept_set w b 3 _⟩
  unfold MgAt at h ⊢
  exact heap_setCell_same w b 3 _ _ u h
end
theorem mg_alloc (w : World) (K F R : Int) (v : Value) : ∃ w1, w1 = w.alloc (.cells #[.int .i64 K, .int .i64 F, .int .i64 R, v] 57) ∧ MgAt w1 w.heap.size K F R v ∧ Below w.heap.size w w1 ∧ w1.heap.size = w.heap.size + 1 :=
  ⟨_, rfl, MgAt.new w K F R v, al_below w _, al_size w _⟩
theorem below_le {w w' : World} {B C : Nat} (h : Below B w w') (e : C ≤ B) : Below C w w' := h.mono e

end Go.Proofs.Ytngmeaaglogieab
