/- Joined: NodOps4, NodBld, NodTun, RefMem, RefNod11, Call5, RefNod6, LawNod1, NodRow, LawNod2, RolEq, NodEq, VotSame, RefNod12, MsgPlain. -/
import Derived.Test.YtngmeaaglogieaaGreatNear69
import Derived.Test.YtngmeaaglogieaaGreatMemOK
import Derived.Test.YtngmeaaglogieaaGreatNear59
import Derived.Test.YtngmeaaglogieaaGreatNear44
import Derived.Test.YtngmeaaglogieaaGreatNear81
namespace Go.Proofs.YtngmeaaglogieaaGreat
open Go.RowKit

theorem manyVd : Many Tryz.prog 35 3 := Many.of _ Tryz.underlying35 rfl (by kernel_rfl)
theorem manyB4 : Many Tryz.prog 27 4 := Many.of _ Tryz.underlying27 rfl (by kernel_rfl)
theorem zero4i (w : World) : (zeroValue 28).run Tryz.prog w = .ok (agV (fun _ => iV 0) 0 4) w := by kernel_rfl
theorem zeroRol (w : World) : (zeroValue 30).run Tryz.prog w = .ok (agV (nrlF zeroR) 0 12) w := by kernel_rfl
section
variable {f : Operand → Value} {o : Oper}
theorem run_ext3A (x : Operand) (ho : o.op = .extract x 0) {u v s : Value} (hx : f x = .tuple #[u, v, s]) (w : World) : (execOp f o).run Tryz.prog w = .ok (.value u) w := by
  unfold execOp
  rw [ho]
  dsimp only
  rw [hx]
  rfl
theorem run_ext3B (x : Operand) (ho : o.op = .extract x 1) {u v s : Value} (hx : f x = .tuple #[u, v, s]) (w : World) : (execOp f o).run Tryz.prog w = .ok (.value v) w := by
  unfold execOp
  rw [ho]
  dsimp only
  rw [hx]
  rfl
theorem run_ext3C (x : Operand) (ho : o.op = .extract x 2) {u v s : Value} (hx : f x = .tuple #[u, v, s]) (w : World) : (execOp f o).run Tryz.prog w = .ok (.value s) w := by
  unfold execOp
  rw [ho]
  dsimp only
  rw [hx]
  rfl
theorem run_eqlE {b : Bool} (x y : Operand) (ho : o.op = .binOp .eql 64 x y 64) {u v : Int} (hx : f x = .int .i64 u) (hy : f y = .int .i64 v) (hb : decide (u = v) = b) (w : World) : (execOp f o).run Tryz.prog w = .ok (.value (.bool b)) w := by
  have e : (u == v) = b := by rw [← hb, Bool.eq_iff_iff]; simp
  unfold execOp
  rw [ho]
  dsimp only
  rw [hx, hy]
  go_simp
end
theorem ndF_inR (n : Nd) (v : Value) : ∀ j, j < 4 → ndF n v (0 + 27 + 0 + j) = tF n.rl.I j := by
  intro j hj
  have := ndF_in n v hj
  rwa [Nat.mul_one] at this
theorem ndF_rl (n : Nd) (v : Value) : ∀ j, j < 12 → ndF n v (0 + 27 + j) = nrlF n.rl j := by
  intro j hj
  unfold ndF
  rw [if_neg (by omega), if_neg (by omega), if_neg (by omega), if_pos (by omega), show 0 + 27 + j - 27 = j by omega]
theorem ndF_he (n : Nd) (v : Value) {i : Nat} (hi : i < 4) : ndF n v (0 + 51 + i * 1) = .int .i64 (n.he i) := by
  unfold ndF
  rw [if_neg (by omega), if_neg (by omega), if_neg (by omega), if_neg (by omega), if_neg (by omega), if_pos (by omega), show 0 + 51 + i * 1 - 51 = i by omega]
  rfl
/-- A verdict's three cells. -/
def nvdF (x : Int) (b : Bool) (u : Value) (i : Nat) : Value := if i = 0 then iV x else if i = 1 then .bool b else u
theorem ndF_vd (n : Nd) (v : Value) : ∀ j, j < 3 → ndF n v (0 + 71 + j) = nvdF n.vX n.vS v j := by
  intro j hj
  match j, hj with
  | 0, _ => rfl
  | 1, _ => rfl
  | 2, _ => rfl
theorem nrlF_one (r : Rl) : ∀ j, j < 12 → (nrlF r j).oneCell' = true := by
  intro j _
  unfold nrlF iV
  repeat' split
  all_goals rfl
theorem nvdF_one (x : Int) (b : Bool) (ao : Option Addr) (n c : Nat) : ∀ j, j < 3 → (nvdF x b (.slice ao n c) j).oneCell' = true := by
  intro j _
  unfold nvdF iV
  repeat' split
  all_goals rfl
theorem stP_all12 (g : Nat → Value) (h : Nat → Value) : ∀ j, j < 12 → stP g 0 12 h j = h j := fun j hj => by
  have := stP_in g (o := 0) (n := 12) h hj
  rwa [Nat.zero_add] at this

end Go.Proofs.YtngmeaaglogieaaGreat

namespace Go.Proofs.YtngmeaaglogieaaGreat
open Go.RowKit

section
variable {f : Operand → Value} {o : Oper}
theorem run_bldN0 (ho : o.op = .build 37 #[]) (w : World) : (execOp f o).run Tryz.prog w = .ok (.value (agV (ndF zeroN (.slice none 0 0)) 0 74)) w := by
  unfold execOp
  rw [ho]
  go_simp
  kernel_rfl
theorem run_bldN (a b c : Operand) (ho : o.op = .build 37 #[(0, a), (2, b), (4, c)]) {id : Int} {t : Tn} {r : Rl} (h0 : f a = .int .i64 id) (h1 : f b = agV (ntnF t) 0 4) (h2 : f c = rollV r) (w : World) :
    (execOp f o).run Tryz.prog w = .ok (.value (agV (ndF { zeroN with id := id, tn := t, rl := r } (.slice none 0 0)) 0 74)) w := by
  have h1' : f b = .agg #[.int .i64 t.Dt, .int .i64 t.Q, .int .i64 t.R, .int .i64 t.G] := h1
  unfold rollV at h2
  unfold execOp
  rw [ho]
  simp only [List.map_toArray, List.map_cons, List.map_nil]
  rw [h0, h1', h2]
  clear h0 h1 h1' h2 ho
  change _ = _
  kernel_rfl
end
theorem refBegS_any (w : World) : Calls Tryz.prog 50 #[.int .i64 0] w fun e w' => e = .returned (agV (nstF St.beg0) 0 7) ∧ Below w.heap.size w w' := by
  go_enter Tryz.func50, Tryz.ntmps50
  go_wp2_with fail
  refine bodyPost_ret (v := agV (nstF St.beg0) 0 7) (by simp [results, Tryz.results50, go_sem]; rfl) rfl ⟨rfl, ?_⟩
  exact ((Below.refl _ _).alloc (Nat.le_refl _) _).alloc (by rw [al_size]; omega) _

end Go.Proofs.YtngmeaaglogieaaGreat

namespace Go.Proofs.YtngmeaaglogieaaGreat
open Go.RowKit

theorem manyTn : Many Tryz.prog 23 4 := Many.of _ Tryz.underlying23 rfl (by kernel_rfl)
theorem ndF_tn (n : Nd) (v : Value) : ∀ j, j < 4 → ndF n v (0 + 2 + j) = ntnF n.tn j := by
  intro j hj
  unfold ndF
  rw [if_neg (by omega), if_pos (by omega), show 0 + 2 + j - 2 = j by omega]

end Go.Proofs.YtngmeaaglogieaaGreat

namespace Go.Proofs.YtngmeaaglogieaaGreat
open Go.RowKit

theorem refBegin_ok : BgOK 49 := by
  intro w
  obtain ⟨w1, e1, m1, k1, z1⟩ := r_alloc w zeroR
  have E1 := hide e1; have M1 := hide m1; have K1 := hide k1
  clear e1 m1 k1 z1
  go_enter Tryz.func49, Tryz.ntmps49
  unfold zeroR at E1
  dsimp only at E1
  go_wp2_with (refine wpList_storeRl _ rfl (.tmp 0) (.tmp 2) rfl rfl (r := beginR) rfl (by rw [← unhide E1]; exact unhide M1) rfl ?_)
  intro w5 m5 k5
  rw [← unhide E1] at k5
  have K5 := hide (below_of_kept (unhide K1) k5 (Nat.le_refl _) (unhide K1).size)
  clear k5
  go_wp2_with fail
  have p0 := m5.inn (i := 0) (by omega)
  have p1 := m5.inn (i := 1) (by omega)
  have p2 := m5.inn (i := 2) (by omega)
  have p3 := m5.inn (i := 3) (by omega)
  have p4 := m5.mis (i := 0) (by omega)
  have p5 := m5.mis (i := 1) (by omega)
  have p6 := m5.mis (i := 2) (by omega)
  have p7 := m5.mis (i := 3) (by omega)
  have p8 := m5.joi (i := 0) (by omega)
  have p9 := m5.joi (i := 1) (by omega)
  have p10 := m5.joi (i := 2) (by omega)
  have p11 := m5.joi (i := 3) (by omega)
  refine bodyPost_ret (v := rollV beginR) (by unfold rollV; simp [results, Tryz.results49, go_sem, p0, p1, p2, p3, p4, p5, p6, p7, p8, p9, p10, p11]) rfl ⟨rfl, unhide K5⟩

end Go.Proofs.YtngmeaaglogieaaGreat

namespace Go.Proofs.YtngmeaaglogieaaGreat
open Go.RowKit

theorem enter_bgroll (w : World) : (callFunc 49 #[]).run Tryz.prog w = .ok (.enter 49 #[]) w := by go_simp
theorem enter_bgst (x : Value) (w : World) : (callFunc 50 #[x]).run Tryz.prog w = .ok (.enter 50 #[x]) w := by go_simp
/-- The axes behind so many. -/
def bgA (x k : Nat) : St := if k < x then St.beg0 else St.nil'
theorem bgA_zero : bgA 0 = zeroN.ax := by funext k; unfold bgA; rw [if_neg (by omega)]; rfl
theorem bgA_next {x : Nat} : (fun k => if k = x then St.beg0 else bgA x k) = bgA (x + 1) := by
  funext k
  unfold bgA
  by_cases c : k = x
  · rw [if_pos c, if_pos (by omega)]
  · rw [if_neg c]
    by_cases c2 : k < x
    · rw [if_pos c2, if_pos (by omega)]
    · rw [if_neg c2, if_neg (by omega)]
def bgN (id : Int) (t : Tn) (ax : Nat → St) : Nd := ⟨id, 0, t, ax, beginR, fun _ _ => 0, fun _ => 0, fun _ _ => 0, fun _ => 0, 0, 0, false, []⟩
theorem bgF_done {id : Int} {t : Tn} {v : Value} : ndF (bgN id t (bgA 3)) v = ndF (bgN id t (fun _ => St.beg0)) v := by
  funext j
  unfold ndF bgN
  dsimp only
  by_cases c2 : j < 2
  · rw [if_pos c2, if_pos c2]
  · rw [if_neg c2, if_neg c2]
    by_cases c6 : j < 6
    · rw [if_pos c6, if_pos c6]
    · rw [if_neg c6, if_neg c6]
      by_cases c27 : j < 27
      · rw [if_pos c27, if_pos c27]
        have e : bgA 3 ((j - 6) / 7) = St.beg0 := by unfold bgA; rw [if_pos (by omega)]
        rw [e]
      · rw [if_neg c27, if_neg c27]
/-- What Begin is held to. -/
def BnOK (fn : Nat) : Prop := ∀ (id : Int) (t : Tn) (w : World), R64 id → t.Ok →
  Calls Tryz.prog fn #[.int .i64 id, agV (ntnF t) 0 4] w fun e w' => ∃ a' c', e = .returned (.tuple #[ndV (begN id t) (.slice a' (begN id t).vA.length c'), .int .i64 (begE id)]) ∧ AgNew w.heap.size w' (begN id t) a' c' ∧ Below w.heap.size w w'
set_option maxHeartbeats 2000000 in
theorem refBeginNode_ok : BnOK 26 := by
  intro id t w _ _
  refine enterF Tryz.func26 rfl 28 rfl (of_decide_eq_true rfl) (fun A hs hd hb => ?_)
  have b0 : A.eval (.tmp 0) = .int .i64 id := hb 0 _ rfl
  have b1 : A.eval (.tmp 1) = agV (ntnF t) 0 4 := hb 1 _ rfl
  clear hb
  refine c_rs (m_start ?_)
  refine m_do rfl (wanted_rd rfl) (fun K hK => ?_)
  refine wp_boxG _ _ _ rfl (ev_out rfl b1) (of_decide_eq_true rfl) ?_
  intro w1 m1 k1 z1
  refine hK _ _ ?_
  clear hK K
  refine m_do rfl (wanted_rd rfl) (fun K hK => ?_)
  refine wp_allocG _ _ rfl zeroNd (of_decide_eq_true rfl) ?_
  intro w2 m2 k2 z2
  have mt2 := m1.below k2
  refine hK _ _ ?_
  clear hK K
  refine m_mv rfl (wanted_rd rfl) (run_assign _ rfl (ev_const _ _) _) ?_
  refine l_nx ?_
  refine c_nx ?_
  refine c_rs ?_
  by_cases h1 : id < 0
  · have e1 : begN id t = zeroN := by unfold begN noN; rw [decide_eq_true h1]; rfl
    have e2 : begE id = 3 := by unfold begE noN; rw [decide_eq_true h1]; rfl
    refine m_mv rfl (wanted_rd rfl) (run_move _ rfl (ev_out rfl b0) _) ?_
    refine m_mv rfl (wanted_rd rfl) (run_lssI (b := true) _ _ rfl (ev_in rfl (by omega)) (ev_const _ _) (decide_eq_true h1) _) ?_
    refine m_mv rfl (wanted_rd rfl) (run_move _ rfl (ev_in rfl (by omega)) _) ?_
    refine m_skip rfl (wanted_n (j := 2) rfl rfl rfl (ev_in rfl (by omega)) (by decide)) ?_
    refine m_skip rfl (wanted_n (j := 2) rfl rfl rfl (ev_in rfl (by omega)) (by decide)) ?_
    refine m_mv rfl (wanted_rd rfl) (run_pickT' _ _ _ rfl (ev_in rfl (by omega)) (ev_const _ _) _) ?_
    refine l_nx ?_
    refine c_true (ev_in rfl (by omega)) ?_
    refine c_rs ?_
    refine m_mv rfl (wanted_rd rfl) (run_bldN0 rfl _) ?_
    refine m_st (wanted_rd rfl) (fun K hK => ?_)
    refine wp_storeP _ _ _ _ rfl manyNd (ev_in rfl (by omega)) (ev_in rfl (by omega)) m2 (by decide) (ndF_one _ _ _ _) rfl ?_
    intro w3 mm3 k3 z3
    have mr3 := Vh.congr mm3 (stP_all _ _)
    have mt3 := mt2.kept k3 (by omega)
    refine hK _ ?_
    clear hK K
    refine m_mv rfl (wanted_rd rfl) (run_assign _ rfl (ev_const _ _) _) ?_
    refine l_nx ?_
    refine c_ret ?_
    simp only [Nx, Exit.then]
    rw [e1, e2]
    refine ret_of ((defL _ _).trans hd) (res_ct rfl (ev_in rfl (by omega)) (ev_in rfl (by omega)) manyNd mr3 (Nat.le_refl _)) ⟨none, 0, rfl, World.ownsRow_nil _ _ _ _, below_of_kept (k1.trans (k2.mono (by omega))) k3 (by omega) (by omega)⟩
  · by_cases h2 : 3 < id
    · have e1 : begN id t = zeroN := by unfold begN noN; rw [decide_eq_true h2, Bool.or_true]; rfl
      have e2 : begE id = 3 := by unfold begE noN; rw [decide_eq_true h2, Bool.or_true]; rfl
      refine m_mv rfl (wanted_rd rfl) (run_move _ rfl (ev_out rfl b0) _) ?_
      refine m_mv rfl (wanted_rd rfl) (run_lssI (b := false) _ _ rfl (ev_in rfl (by omega)) (ev_const _ _) (decide_eq_false h1) _) ?_
      refine m_mv rfl (wanted_rd rfl) (run_move _ rfl (ev_in rfl (by omega)) _) ?_
      refine m_mv rfl (wanted_g (j := 2) rfl rfl rfl (ev_in rfl (by omega))) (run_move _ rfl (ev_out rfl b0) _) ?_
      refine m_mv rfl (wanted_g (j := 2) rfl rfl rfl (ev_in rfl (by omega))) (run_gtrI (b := true) _ _ rfl (ev_in rfl (by omega)) (ev_const _ _) (decide_eq_true h2) _) ?_
      refine m_mv rfl (wanted_rd rfl) (run_pickF _ _ _ rfl (ev_in rfl (by omega)) (ev_in rfl (by omega)) _) ?_
      refine l_nx ?_
      refine c_true (ev_in rfl (by omega)) ?_
      refine c_rs ?_
      refine m_mv rfl (wanted_rd rfl) (run_bldN0 rfl _) ?_
      refine m_st (wanted_rd rfl) (fun K hK => ?_)
      refine wp_storeP _ _ _ _ rfl manyNd (ev_in rfl (by omega)) (ev_in rfl (by omega)) m2 (by decide) (ndF_one _ _ _ _) rfl ?_
      intro w3 mm3 k3 z3
      have mr3 := Vh.congr mm3 (stP_all _ _)
      have mt3 := mt2.kept k3 (by omega)
      refine hK _ ?_
      clear hK K
      refine m_mv rfl (wanted_rd rfl) (run_assign _ rfl (ev_const _ _) _) ?_
      refine l_nx ?_
      refine c_ret ?_
      simp only [Nx, Exit.then]
      rw [e1, e2]
      refine ret_of ((defL _ _).trans hd) (res_ct rfl (ev_in rfl (by omega)) (ev_in rfl (by omega)) manyNd mr3 (Nat.le_refl _)) ⟨none, 0, rfl, World.ownsRow_nil _ _ _ _, below_of_kept (k1.trans (k2.mono (by omega))) k3 (by omega) (by omega)⟩
    · have e1 : begN id t = bgN id t (fun _ => St.beg0) := by unfold begN noN; rw [decide_eq_false h1, decide_eq_false h2]; rfl
      have e2 : begE id = 0 := by unfold begE noN; rw [decide_eq_false h1, decide_eq_false h2]; rfl
      refine m_mv rfl (wanted_rd rfl) (run_move _ rfl (ev_out rfl b0) _) ?_
      refine m_mv rfl (wanted_rd rfl) (run_lssI (b := false) _ _ rfl (ev_in rfl (by omega)) (ev_const _ _) (decide_eq_false h1) _) ?_
      refine m_mv rfl (wanted_rd rfl) (run_move _ rfl (ev_in rfl (by omega)) _) ?_
      refine m_mv rfl (wanted_g (j := 2) rfl rfl rfl (ev_in rfl (by omega))) (run_move _ rfl (ev_out rfl b0) _) ?_
      refine m_mv rfl (wanted_g (j := 2) rfl rfl rfl (ev_in rfl (by omega))) (run_gtrI (b := false) _ _ rfl (ev_in rfl (by omega)) (ev_const _ _) (decide_eq_false h2) _) ?_
      refine m_mv rfl (wanted_rd rfl) (run_pickF _ _ _ rfl (ev_in rfl (by omega)) (ev_in rfl (by omega)) _) ?_
      refine l_nx ?_
      refine c_false (ev_in rfl (by omega)) (c_fin ?_)
      refine c_nx ?_
      have hS0 : (fun W => Vh 23 W w.heap.size 4 4 (ntnF t)) w2.drew := mt2
      have mr0 : Vh _ w2.drew _ _ _ _ := m2
      have ez : w2.drew.heap.size = w2.heap.size := rfl
      have kA : Below w.heap.size w w2.drew := below_drew (k1.trans (k2.mono (by omega)))
      refine c_rj (S := fun W => Vh 23 W w.heap.size 4 4 (ntnF t)) (.mv 0 (.rd 1 (.two 2 4 (.mv 3 (.go 4 (.go 5 .fin))) (.go 2 (.mv 3 (.go 5 .fin)))))) [] (by kernel_rfl) (by kernel_rfl) ?_
      refine j_mv rfl rfl (fun _ _ _ h => h) (wanted_rd rfl) (fun _ => run_move _ rfl (ev_out rfl b0) _) ?_
      refine j_rd rfl rfl (fun _ _ _ h => h) (wanted_rd rfl) hS0 (fun _ hS => run_loadPe _ _ rfl manyTn (ev_in rfl (by omega)) hS (by omega) (fun j _ => by rw [Nat.zero_add])) ?_
      refine j_two ?_ ?_
      · refine j_do rfl rfl (wanted_rd rfl) (fun K hK => ?_)
        refine wp_call0 _ 49 _ rfl (enter_bgroll _) (refBegin_ok _) ?_
        rintro e w3 ⟨rfl, k3⟩
        have n3 := k3.size
        have mt3 := hS0.below k3
        have mr3 := mr0.below k3
        refine ⟨_, rfl, ?_⟩
        refine hK _ _ (fun _ _ => mt3) ?_
        clear hK K
        refine j_mv rfl rfl (fun _ _ _ h => h) (wanted_rd rfl) (fun _ => run_bldN _ _ _ rfl (id := id) (t := t) (r := beginR) (ev_in rfl (by omega)) (ev_in rfl (by omega)) (ev_in rfl (by omega)) _) ?_
        refine j_do rfl rfl (wanted_rd rfl) (fun K hK => ?_)
        refine wp_allocG _ _ rfl zeroNd (of_decide_eq_true rfl) ?_
        intro w4 m4 k4 z4
        have mt4 := mt3.below k4
        have mr4 := mr3.below k4
        refine hK _ _ (fun _ _ => mt4) ?_
        clear hK K
        refine j_st rfl (wanted_rd rfl) (fun K hK => ?_)
        refine wp_storeP _ _ _ _ rfl manyNd (ev_in rfl (by omega)) (ev_in rfl (by omega)) m4 (by decide) (ndF_one _ _ _ _) rfl ?_
        intro w5 mm5 k5 z5
        have mp5 := Vh.congr mm5 (stP_all _ _)
        have mt5 := mt4.kept k5 (by omega)
        have mr5 := mr4.kept k5 (by omega)
        refine hK _ (fun _ _ => mt5) ?_
        clear hK K
        refine j_nx ?_
        refine c_nx ?_
        refine c_rs ?_
        refine m_mv rfl (wanted_rd rfl) (run_assign _ rfl (ev_const _ _) _) ?_
        refine l_nx ?_
        refine c_block ?_
        refine c_loop (fun r a W => ∃ x : Nat, x ≤ 3 ∧ 3 - x ≤ r ∧ a.tmps.size = 28 ∧ a.defers = [] ∧ a.eval (.tmp 4) = .pointer (some ⟨w1.heap.size, 0, none⟩) ∧ a.eval (.tmp 6) = .pointer (some ⟨w3.heap.size, 0, none⟩) ∧ a.eval (.tmp 7) = .int .i64 (x : Int) ∧ Vh 37 W w1.heap.size 74 74 (ndF zeroN (.slice none 0 0)) ∧ Vh 37 W (w3.heap.size) 74 74 (ndF (bgN id t (bgA x)) (.slice none 0 0)) ∧ Below w.heap.size w W ∧ w5.heap.size ≤ W.heap.size) 3 ⟨0, by omega, by omega, (szL _ _).trans hs, (defL _ _).trans hd, (ev_in rfl (by omega)), (ev_in rfl (by omega)), (ev_in rfl (by omega)), mr5, by rw [bgA_zero]; exact mp5, below_of_kept ((kA.trans (k3.mono (by omega))).trans (k4.mono (by omega))) k5 (by omega) (by omega), by omega⟩ (fun r B W hI => ?_)
        clear b0 b1 hs hd
        obtain ⟨x, hx, hr2, hs, hd, b4, b6, b7, mr, mp, kB, hW⟩ := hI
        by_cases hin : x < 3
        · refine c_nx ?_
          refine c_rs (m_start ?_)
          refine m_mv rfl (wanted_rd rfl) (run_move _ rfl (ev_out rfl b7) _) ?_
          refine m_mv rfl (wanted_rd rfl) (run_lssI (b := true) _ _ rfl (ev_in rfl (by omega)) (ev_const _ _) (decide_eq_true (by omega)) _) ?_
          refine l_nx ?_
          refine c_true (ev_in rfl (by omega)) (c_fin ?_)
          refine c_nx (c_block ?_)
          refine c_region ?_
          refine m_mv rfl (wanted_rd rfl) (run_move _ rfl (ev_out rfl b7) _) ?_
          refine m_do rfl (wanted_rd rfl) (fun K hK => ?_)
          refine wp_call1 _ 50 _ _ rfl (ev_const _ _) (enter_bgst _ _) (refBegS_any _) ?_
          rintro e w11 ⟨rfl, k11⟩
          have n11 := k11.size
          have mr11 := mr.below k11
          have mp11 := mp.below k11
          refine ⟨_, rfl, ?_⟩
          refine hK _ _ ?_
          clear hK K
          refine m_mv rfl (wanted_rd rfl) (fldNd3 rfl (ev_out rfl b6) _) ?_
          refine m_mv rfl (wanted_rd rfl) (run_ixG _ _ _ _ rfl Tryz.underlying26 manySt.size (ev_in rfl (by omega)) (ev_in rfl (by omega)) rfl hin _) ?_
          refine m_st (wanted_rd rfl) (fun K hK => ?_)
          refine wp_storeP _ _ _ _ rfl manySt (ev_in rfl (by omega)) (ev_in rfl (by omega)) mp11 (by omega) (nstF_one _) rfl ?_
          intro w12 mm12 k12 z12
          have mp12 : Vh 37 w12 (w3.heap.size) 74 74 (ndF (bgN id t (bgA (x + 1))) (.slice none 0 0)) := by rw [← bgA_next]; exact Vh.congr mm12 (upd_axAt _ _ _ x hin)
          have mr12 := mr11.kept k12 (by omega)
          refine hK _ ?_
          clear hK K
          refine l_finB ?_
          refine c_region ?_
          refine m_mv rfl (wanted_rd rfl) (run_move _ rfl (ev_out rfl b7) _) ?_
          refine m_mv rfl (wanted_rd rfl) (run_addI _ _ rfl (ev_in rfl (by omega)) (ev_const _ _) (by omega) (by omega) _) ?_
          refine m_mv rfl (wanted_rd rfl) (run_assign _ rfl (ev_in rfl (by omega)) _) ?_
          exact l_round ⟨3 - (x + 1), by omega, x + 1, by omega, by omega, (szL _ _).trans hs, (defL _ _).trans hd, (ev_out rfl b4), (ev_out rfl b6), (ev_in rfl (by omega)).trans (by rw [Int.natCast_add]; rfl), mr12, mp12, below_of_kept (kB.trans (k11.mono (by omega))) k12 (by omega) (by omega), by omega⟩
        · refine c_nx ?_
          refine c_rs (m_start ?_)
          refine m_mv rfl (wanted_rd rfl) (run_move _ rfl (ev_out rfl b7) _) ?_
          refine m_mv rfl (wanted_rd rfl) (run_lssI (b := false) _ _ rfl (ev_in rfl (by omega)) (ev_const _ _) (decide_eq_false (by omega)) _) ?_
          obtain rfl : x = 3 := by omega
          rw [bgF_done] at mp
          refine l_nx ?_
          refine c_false (ev_in rfl (by omega)) (c_exit (x_out ?_))
          refine c_rs ?_
          refine m_mv rfl (wanted_rd rfl) (run_loadP _ _ rfl manyNd (ev_out rfl b6) mp (by decide)) ?_
          refine m_st (wanted_rd rfl) (fun K hK => ?_)
          refine wp_storeP _ _ _ _ rfl manyNd (ev_out rfl b4) (ev_in rfl (by omega)) mr (by decide) (ndF_one _ _ _ _) rfl ?_
          intro w11 mm11 k11 z11
          have mr11 := Vh.congr mm11 (stP_all _ _)
          have mp11 := mp.kept k11 (by omega)
          refine hK _ ?_
          clear hK K
          refine m_mv rfl (wanted_rd rfl) (run_assign _ rfl (ev_const _ _) _) ?_
          refine l_nx ?_
          refine c_ret ?_
          rw [e1, e2]
          refine ret_of ((defL _ _).trans hd) (res_ct rfl (ev_out rfl b4) (ev_in rfl (by omega)) manyNd mr11 (Nat.le_refl _)) ⟨none, 0, rfl, World.ownsRow_nil _ _ _ _, below_of_kept kB k11 (by omega) (by omega)⟩
      · refine j_do rfl rfl (wanted_rd rfl) (fun K hK => ?_)
        refine wp_allocG _ _ rfl zeroNd (of_decide_eq_true rfl) ?_
        intro w3 m3 k3 z3
        have mt3 := hS0.below k3
        have mr3 := mr0.below k3
        refine hK _ _ (fun _ _ => mt3) ?_
        clear hK K
        refine j_do rfl rfl (wanted_rd rfl) (fun K hK => ?_)
        refine wp_call0 _ 49 _ rfl (enter_bgroll _) (refBegin_ok _) ?_
        rintro e w4 ⟨rfl, k4⟩
        have n4 := k4.size
        have mt4 := mt3.below k4
        have mr4 := mr3.below k4
        have mp4 := m3.below k4
        refine ⟨_, rfl, ?_⟩
        refine hK _ _ (fun _ _ => mt4) ?_
        clear hK K
        refine j_mv rfl rfl (fun _ _ _ h => h) (wanted_rd rfl) (fun _ => run_bldN _ _ _ rfl (id := id) (t := t) (r := beginR) (ev_in rfl (by omega)) (ev_in rfl (by omega)) (ev_in rfl (by omega)) _) ?_
        refine j_st rfl (wanted_rd rfl) (fun K hK => ?_)
        refine wp_storeP _ _ _ _ rfl manyNd (ev_in rfl (by omega)) (ev_in rfl (by omega)) mp4 (by decide) (ndF_one _ _ _ _) rfl ?_
        intro w5 mm5 k5 z5
        have mp5 := Vh.congr mm5 (stP_all _ _)
        have mt5 := mt4.kept k5 (by omega)
        have mr5 := mr4.kept k5 (by omega)
        refine hK _ (fun _ _ => mt5) ?_
        clear hK K
        refine j_nx ?_
        refine c_nx ?_
        refine c_rs ?_
        refine m_mv rfl (wanted_rd rfl) (run_assign _ rfl (ev_const _ _) _) ?_
        refine l_nx ?_
        refine c_block ?_
        refine c_loop (fun r a W => ∃ x : Nat, x ≤ 3 ∧ 3 - x ≤ r ∧ a.tmps.size = 28 ∧ a.defers = [] ∧ a.eval (.tmp 4) = .pointer (some ⟨w1.heap.size, 0, none⟩) ∧ a.eval (.tmp 6) = .pointer (some ⟨w2.drew.heap.size, 0, none⟩) ∧ a.eval (.tmp 7) = .int .i64 (x : Int) ∧ Vh 37 W w1.heap.size 74 74 (ndF zeroN (.slice none 0 0)) ∧ Vh 37 W (w2.drew.heap.size) 74 74 (ndF (bgN id t (bgA x)) (.slice none 0 0)) ∧ Below w.heap.size w W ∧ w5.heap.size ≤ W.heap.size) 3 ⟨0, by omega, by omega, (szL _ _).trans hs, (defL _ _).trans hd, (ev_in rfl (by omega)), (ev_in rfl (by omega)), (ev_in rfl (by omega)), mr5, by rw [bgA_zero]; exact mp5, below_of_kept ((kA.trans (k3.mono (by omega))).trans (k4.mono (by omega))) k5 (by omega) (by omega), by omega⟩ (fun r B W hI => ?_)
        clear b0 b1 hs hd
        obtain ⟨x, hx, hr2, hs, hd, b4, b6, b7, mr, mp, kB, hW⟩ := hI
        by_cases hin : x < 3
        · refine c_nx ?_
          refine c_rs (m_start ?_)
          refine m_mv rfl (wanted_rd rfl) (run_move _ rfl (ev_out rfl b7) _) ?_
          refine m_mv rfl (wanted_rd rfl) (run_lssI (b := true) _ _ rfl (ev_in rfl (by omega)) (ev_const _ _) (decide_eq_true (by omega)) _) ?_
          refine l_nx ?_
          refine c_true (ev_in rfl (by omega)) (c_fin ?_)
          refine c_nx (c_block ?_)
          refine c_region ?_
          refine m_mv rfl (wanted_rd rfl) (run_move _ rfl (ev_out rfl b7) _) ?_
          refine m_do rfl (wanted_rd rfl) (fun K hK => ?_)
          refine wp_call1 _ 50 _ _ rfl (ev_const _ _) (enter_bgst _ _) (refBegS_any _) ?_
          rintro e w11 ⟨rfl, k11⟩
          have n11 := k11.size
          have mr11 := mr.below k11
          have mp11 := mp.below k11
          refine ⟨_, rfl, ?_⟩
          refine hK _ _ ?_
          clear hK K
          refine m_mv rfl (wanted_rd rfl) (fldNd3 rfl (ev_out rfl b6) _) ?_
          refine m_mv rfl (wanted_rd rfl) (run_ixG _ _ _ _ rfl Tryz.underlying26 manySt.size (ev_in rfl (by omega)) (ev_in rfl (by omega)) rfl hin _) ?_
          refine m_st (wanted_rd rfl) (fun K hK => ?_)
          refine wp_storeP _ _ _ _ rfl manySt (ev_in rfl (by omega)) (ev_in rfl (by omega)) mp11 (by omega) (nstF_one _) rfl ?_
          intro w12 mm12 k12 z12
          have mp12 : Vh 37 w12 (w2.drew.heap.size) 74 74 (ndF (bgN id t (bgA (x + 1))) (.slice none 0 0)) := by rw [← bgA_next]; exact Vh.congr mm12 (upd_axAt _ _ _ x hin)
          have mr12 := mr11.kept k12 (by omega)
          refine hK _ ?_
          clear hK K
          refine l_finB ?_
          refine c_region ?_
          refine m_mv rfl (wanted_rd rfl) (run_move _ rfl (ev_out rfl b7) _) ?_
          refine m_mv rfl (wanted_rd rfl) (run_addI _ _ rfl (ev_in rfl (by omega)) (ev_const _ _) (by omega) (by omega) _) ?_
          refine m_mv rfl (wanted_rd rfl) (run_assign _ rfl (ev_in rfl (by omega)) _) ?_
          exact l_round ⟨3 - (x + 1), by omega, x + 1, by omega, by omega, (szL _ _).trans hs, (defL _ _).trans hd, (ev_out rfl b4), (ev_out rfl b6), (ev_in rfl (by omega)).trans (by rw [Int.natCast_add]; rfl), mr12, mp12, below_of_kept (kB.trans (k11.mono (by omega))) k12 (by omega) (by omega), by omega⟩
        · refine c_nx ?_
          refine c_rs (m_start ?_)
          refine m_mv rfl (wanted_rd rfl) (run_move _ rfl (ev_out rfl b7) _) ?_
          refine m_mv rfl (wanted_rd rfl) (run_lssI (b := false) _ _ rfl (ev_in rfl (by omega)) (ev_const _ _) (decide_eq_false (by omega)) _) ?_
          obtain rfl : x = 3 := by omega
          rw [bgF_done] at mp
          refine l_nx ?_
          refine c_false (ev_in rfl (by omega)) (c_exit (x_out ?_))
          refine c_rs ?_
          refine m_mv rfl (wanted_rd rfl) (run_loadP _ _ rfl manyNd (ev_out rfl b6) mp (by decide)) ?_
          refine m_st (wanted_rd rfl) (fun K hK => ?_)
          refine wp_storeP _ _ _ _ rfl manyNd (ev_out rfl b4) (ev_in rfl (by omega)) mr (by decide) (ndF_one _ _ _ _) rfl ?_
          intro w11 mm11 k11 z11
          have mr11 := Vh.congr mm11 (stP_all _ _)
          have mp11 := mp.kept k11 (by omega)
          refine hK _ ?_
          clear hK K
          refine m_mv rfl (wanted_rd rfl) (run_assign _ rfl (ev_const _ _) _) ?_
          refine l_nx ?_
          refine c_ret ?_
          rw [e1, e2]
          refine ret_of ((defL _ _).trans hd) (res_ct rfl (ev_out rfl b4) (ev_in rfl (by omega)) manyNd mr11 (Nat.le_refl _)) ⟨none, 0, rfl, World.ownsRow_nil _ _ _ _, below_of_kept kB k11 (by omega) (by omega)⟩

end Go.Proofs.YtngmeaaglogieaaGreat

namespace Go.Proofs.YtngmeaaglogieaaGreat
open Go

theorem wp_call5 (w : World) {P : Program} {Q : Exit → Act → World → Prop} {o : Oper} {a : Act} {K : Act → World → Prop} (n : Nat) (x y z u v : Operand) (T : Array TypeId) (ho : o.op = .call { callee := .value (.func n), args := #[x, y, z, u, v], argTypes := T }) {p q r s t : Value} (hx : a.eval x = p) (hy : a.eval y = q) (hz : a.eval z = r) (hu : a.eval u = s) (hv : a.eval v = t) (hf : (callFunc n #[p, q, r, s, t]).run P w = .ok (.enter n #[p, q, r, s, t]) w) {R : Ending → World → Prop} (hc : Calls P n #[p, q, r, s, t] w R)
    (h : ∀ e w', R e w' → ∃ r, e = .returned r ∧ K (a.put o.dst r) w') : WpI P o a w K Q := by
  refine ⟨?_⟩
  have e : (execOp a.eval o).run P w = .ok (.enter n #[p, q, r, s, t]) w := by
    unfold execOp
    rw [ho]
    have hv2 : a.eval (Operand.func n) = .func (.func n) #[] #[] := rfl
    simp only [resolve, invoke, Sem.run_bind, List.map_toArray, List.map_cons, List.map_nil, hx, hy, hz, hu, hv, hv2]
    go_simp
  unfold Oper.wp
  rw [e, Oper.upon_enter]
  refine hc.mono ?_
  intro e w' hr
  obtain ⟨r, rfl, hk⟩ := h e w' hr
  exact hk


end Go.Proofs.YtngmeaaglogieaaGreat

namespace Go.Proofs.YtngmeaaglogieaaGreat
open Go.RowKit

/-- Direct behind the first i nodes; the message's numbers. -/
def relI (n : Nd) (l : List Ms) (i s a : Nat) : Int := if s < i then relD n l s a else n.di s a
def relR (n : Nd) (l : List Ms) (j : Nat) : Int := relD n l (j / 3) (j % 3)
theorem ndF_diC {n : Nd} {d d' : Nat → Nat → Int} {v : Value} (h : ∀ s a, s < 4 → d s a = d' s a) : ndF { n with di := d } v = ndF { n with di := d' } v := by
  funext j
  unfold ndF
  by_cases c2 : j < 2
  · rw [if_pos c2, if_pos c2]
  · rw [if_neg c2, if_neg c2]
    by_cases c6 : j < 6
    · rw [if_pos c6, if_pos c6]
    · rw [if_neg c6, if_neg c6]
      by_cases c27 : j < 27
      · rw [if_pos c27, if_pos c27]
      · rw [if_neg c27, if_neg c27]
        by_cases c39 : j < 39
        · rw [if_pos c39, if_pos c39]
        · rw [if_neg c39, if_neg c39]
          by_cases c51 : j < 51
          · rw [if_pos c51, if_pos c51]
            show iV (d _ _) = iV (d' _ _)
            rw [h _ _ (by omega)]
          · rw [if_neg c51, if_neg c51]
theorem ndF_di (n : Nd) (v : Value) {i a : Nat} (hi : i < 4) (ha : a < 3) : ndF n v (0 + 39 + i * 3 + a * 1) = .int .i64 (n.di i a) := by
  unfold ndF
  rw [if_neg (by omega), if_neg (by omega), if_neg (by omega), if_neg (by omega), if_pos (by omega), show (0 + 39 + i * 3 + a * 1 - 39) / 3 = i by omega, show (0 + 39 + i * 3 + a * 1 - 39) % 3 = a by omega]
  rfl
theorem rel_four (n : Nd) (l : List Ms) : ∀ s a, s < 4 → relI n l 4 s a = relD n l s a := fun s a h => by unfold relI; rw [if_pos h]
theorem rel_none {n : Nd} {L : List Lm} {i : Nat} (h : fL n.id n.fr L (i : Int) 1 3 = none) : ({ n with di := relI n (L.map Lm.m) i } : Nd) = { n with di := relI n (L.map Lm.m) (i + 1) } := by
  congr 1
  funext s a
  unfold relI
  by_cases c1 : s < i
  · rw [if_pos c1, if_pos (by omega)]
  · rw [if_neg c1]
    by_cases c2 : s = i
    · subst c2
      rw [if_pos (by omega)]
      unfold relD
      have := fL_frst n L s 1 3
      rw [show ((3 : Nat) : Int) = 3 from rfl, h] at this
      rw [← this]
      rfl
    · rw [if_neg (by omega)]
theorem rel_some {n : Nd} {L : List Lm} {i : Nat} {c : Lm} (h : fL n.id n.fr L (i : Int) 1 3 = some c) : ({ n with di := fun s a => if s = i then gL c.m.L a else relI n (L.map Lm.m) i s a } : Nd) = { n with di := relI n (L.map Lm.m) (i + 1) } := by
  congr 1
  funext s a
  unfold relI
  by_cases c2 : s = i
  · subst c2
    rw [if_pos rfl, if_pos (by omega)]
    unfold relD
    have := fL_frst n L s 1 3
    rw [show ((3 : Nat) : Int) = 3 from rfl, h] at this
    rw [← this]
    rfl
  · rw [if_neg c2]
    by_cases c1 : s < i
    · rw [if_pos c1, if_pos (by omega)]
    · rw [if_neg c1, if_neg (by omega)]
theorem rel_at {n : Nd} {l : List Ms} {i x : Nat} (hx : x < 3) : iF (relR n l) (3 * i + x) = (fun _ : Nat => iV (relI n l (i + 1) i x)) 0 := by
  show iV (relD n l ((3 * i + x) / 3) ((3 * i + x) % 3)) = iV _
  unfold relI
  rw [if_pos (by omega), show (3 * i + x) / 3 = i by omega, show (3 * i + x) % 3 = x by omega]
theorem msF_set (K F R : Int) (v u : Value) : ∀ j, j < 4 → stW (msF K F R v) (0 + 3) u j = msF K F R u j := by
  intro j hj
  match j, hj with
  | 0, _ => rfl
  | 1, _ => rfl
  | 2, _ => rfl
  | 3, _ => rfl
theorem gL_row (f : Nat → Int) (k : Nat) : rowV (iF (gL ((List.range k).map f))) k = rowV (iF f) k := by
  refine rowV_congr (fun i hi => ?_)
  unfold iF gL
  rw [List.getD_eq_getElem?_getD, List.getElem?_map, List.getElem?_range hi]
  rfl
end Go.Proofs.YtngmeaaglogieaaGreat

namespace Go.Proofs.YtngmeaaglogieaaGreat
open Go.RowKit

theorem message_any (K F R : Int) (ao : Option Addr) (n c : Nat) (g : Nat → Int) (w : World) (hs0 : Sr w ao n c (iF g)) (hl : n ≤ 17592186044404) :
    Calls Tryz.prog 20 #[agV (msF K F R (.slice ao n c)) 0 4] w fun e w' => ∃ a' c', e = .returned (agV (msF K F R (.slice a' n c')) 0 4) ∧ w'.ownsRow w.heap.size 3 1 (.slice a' n c') n (rowV (iF g) n) ∧ Below w.heap.size w w' := by
  refine enterF Tryz.func20 rfl 8 rfl (of_decide_eq_true rfl) (fun A hs hd hb => ?_)
  have b0 : A.eval (.tmp 0) = agV (msF K F R (.slice ao n c)) 0 4 := hb 0 _ rfl
  clear hb
  refine c_rs (m_start ?_)
  refine m_do rfl (wanted_rd rfl) (fun K hK => ?_)
  refine wp_boxG _ _ _ rfl (ev_out rfl b0) (of_decide_eq_true rfl) ?_
  intro w1 m1 k1 z1
  have sr1 := hs0.below k1
  refine hK _ _ ?_
  clear hK K
  refine m_do rfl (wanted_rd rfl) (fun K hK => ?_)
  refine wp_allocG _ _ rfl zeroMs (of_decide_eq_true rfl) ?_
  intro w2 m2 k2 z2
  have mm2 := m1.below k2
  have sr2 := sr1.below k2
  refine hK _ _ ?_
  clear hK K
  refine l_nx ?_
  refine c_rs ?_
  refine m_mv rfl (wanted_rd rfl) (fldMs3 rfl (ev_in rfl (by omega)) _) ?_
  refine m_mv rfl (wanted_rd rfl) (run_lod1 _ _ rfl oneIs (ev_in rfl (by omega)) mm2 (by decide) rfl) ?_
  refine m_do rfl (wanted_rd rfl) (fun K hK => ?_)
  refine ⟨wp_joinI _ _ _ rfl w2.heap.size (Nat.le_refl _) (.slice none 0 0) 0 [] rfl (World.ownsRow_nil _ _ _ _) ao n c (iF g) (ev_in rfl (by omega)) sr2 (fun i _ => rfl) (by omega) ?_⟩
  intro v3 w3 o3 k3
  rw [Nat.zero_add, List.nil_append] at o3
  obtain ⟨a3, c3, rfl, hc3⟩ := rw_slice o3
  have mm3 := mm2.below k3
  have mr3 := m2.below k3
  refine hK _ _ ?_
  clear hK K
  refine m_mv rfl (wanted_rd rfl) (fldMs3 rfl (ev_in rfl (by omega)) _) ?_
  refine m_st (wanted_rd rfl) (fun K hK => ?_)
  refine wp_sto1 _ _ _ _ rfl oneIs (ev_in rfl (by omega)) (ev_in rfl (by omega)) mm3 (by decide) rfl rfl rfl ?_
  intro w4 mm4 k4 z4
  have mm4 := Vh.congr mm4 (msF_set _ _ _ _ _)
  have mr4 := mr3.kept k4 (by omega)
  have ow4 := rw_under o3 k4 (by omega)
  refine hK _ ?_
  clear hK K
  refine l_nx ?_
  refine c_rs ?_
  refine m_mv rfl (wanted_rd rfl) (run_loadP _ _ rfl manyMs (ev_in rfl (by omega)) mm4 (by decide)) ?_
  refine m_st (wanted_rd rfl) (fun K hK => ?_)
  refine wp_storeP _ _ _ _ rfl manyMs (ev_in rfl (by omega)) (ev_in rfl (by omega)) mr4 (by decide) (msF_one _ _ _ _ _ _) rfl ?_
  intro w5 mm5 k5 z5
  have mr5 := Vh.congr mm5 (stP_all4 _ _)
  have mm5 := mm4.kept k5 (by omega)
  have ow5 := rw_under ow4 k5 (by omega)
  refine hK _ ?_
  clear hK K
  refine l_nx ?_
  refine c_ret (ret_of ((defL _ _).trans hd) (res_c rfl (ev_in rfl (by omega)) manyMs mr5 (Nat.le_refl _)) ⟨a3, c3, rfl, rw_base ow5 (by omega), ?_⟩)
  exact below_of_kept (below_of_kept ((k1.trans (k2.mono (by omega))).trans (k3.mono (by omega))) k4 (by omega) (by have := k3.size; omega)) k5 (by omega) (by have := k3.size; omega)
theorem run_bldTn {f : Operand → Value} {o : Oper} (a : Operand) (ho : o.op = .build 23 #[(0, a)]) {x : Int} (h0 : f a = .int .i64 x) (w : World) : (execOp f o).run Tryz.prog w = .ok (.value (agV (ntnF ⟨x, 0, 0, 0⟩) 0 4)) w := by
  unfold execOp
  rw [ho]
  go_simp
  rfl
theorem enter_bgnode (x y : Value) (w : World) : (callFunc 26 #[x, y]).run Tryz.prog w = .ok (.enter 26 #[x, y]) w := by go_simp
theorem tn1_ok : (⟨1, 0, 0, 0⟩ : Tn).Ok := by
  constructor <;> exact ⟨by decide, by decide⟩
theorem begun_any (w : World) : Calls Tryz.prog 8 #[] w fun e w' => ∃ a' c', e = .returned (ndV (begN 2 ⟨1, 0, 0, 0⟩) (.slice a' (begN 2 ⟨1, 0, 0, 0⟩).vA.length c')) ∧ AgNew w.heap.size w' (begN 2 ⟨1, 0, 0, 0⟩) a' c' ∧ Below w.heap.size w w' := by
  refine enterF Tryz.func8 rfl 9 rfl (of_decide_eq_true rfl) (fun A hs hd hb => ?_)

  clear hb
  refine c_rs (m_start ?_)
  refine m_do rfl (wanted_rd rfl) (fun K hK => ?_)
  refine wp_allocG _ _ rfl zeroNd (of_decide_eq_true rfl) ?_
  intro w1 m1 k1 z1
  refine hK _ _ ?_
  clear hK K
  refine l_nx ?_
  refine c_rs ?_
  refine m_mv rfl (wanted_rd rfl) (run_bldTn _ rfl (ev_const _ _) _) ?_
  refine m_do rfl (wanted_rd rfl) (fun K hK => ?_)
  refine wp_call2 _ 26 _ _ _ rfl (ev_const _ _) (ev_in rfl (by omega)) (enter_bgnode _ _ _) (refBeginNode_ok 2 ⟨1, 0, 0, 0⟩ _ ⟨by decide, by decide⟩ tn1_ok) ?_
  rintro e w2 ⟨a3, c3, rfl, o2, k2⟩
  have n2 := k2.size
  have mr2 := m1.below k2
  refine ⟨_, rfl, ?_⟩
  refine hK _ _ ?_
  clear hK K
  refine m_mv rfl (wanted_rd rfl) (run_move _ rfl (ev_in rfl (by omega)) _) ?_
  refine m_mv rfl (wanted_rd rfl) (run_extA _ rfl (ev_in rfl (by omega)) _) ?_
  refine m_mv rfl (wanted_rd rfl) (run_extB _ rfl (ev_in rfl (by omega)) _) ?_
  refine m_do rfl (wanted_rd rfl) (fun K hK => ?_)
  refine wp_allocG _ _ rfl zeroNd (of_decide_eq_true rfl) ?_
  intro w3 m3 k3 z3
  have mr3 := mr2.below k3
  have ow3 := rw_below o2 k3
  refine hK _ _ ?_
  clear hK K
  refine m_st (wanted_rd rfl) (fun K hK => ?_)
  refine wp_storeP _ _ _ _ rfl manyNd (ev_in rfl (by omega)) (ev_in rfl (by omega)) m3 (by decide) (ndF_one _ _ _ _) rfl ?_
  intro w4 mm4 k4 z4
  have mn4 := Vh.congr mm4 (stP_all _ _)
  have mr4 := mr3.kept k4 (by omega)
  have ow4 := rw_kept ow3 k4 (fun e => by have e1 := (o2.lt _ e).1; have e2 := (o2.lt _ e).2; omega)
  refine hK _ ?_
  clear hK K
  refine m_mv rfl (wanted_rd rfl) (run_assign _ rfl (ev_in rfl (by omega)) _) ?_
  refine l_nx ?_
  refine c_rs ?_
  refine m_mv rfl (wanted_rd rfl) (run_loadP _ _ rfl manyNd (ev_in rfl (by omega)) mn4 (by decide)) ?_
  refine m_st (wanted_rd rfl) (fun K hK => ?_)
  refine wp_storeP _ _ _ _ rfl manyNd (ev_in rfl (by omega)) (ev_in rfl (by omega)) mr4 (by decide) (ndF_one _ _ _ _) rfl ?_
  intro w5 mm5 k5 z5
  have mr5 := Vh.congr mm5 (stP_all _ _)
  have mn5 := mn4.kept k5 (by omega)
  have ow5 := rw_kept ow4 k5 (fun e => by have e1 := (o2.lt _ e).1; have e2 := (o2.lt _ e).2; omega)
  refine hK _ ?_
  clear hK K
  refine l_nx ?_
  refine c_ret (ret_of ((defL _ _).trans hd) (res_c rfl (ev_in rfl (by omega)) manyNd mr5 (Nat.le_refl _)) ⟨a3, c3, rfl, rw_base ow5 (by omega), ?_⟩)
  exact below_of_kept (below_of_kept ((k1.trans (k2.mono (by omega))).trans (k3.mono (by omega))) k4 (by omega) (by omega)) k5 (by omega) (by omega)

end Go.Proofs.YtngmeaaglogieaaGreat

namespace Go.Proofs.YtngmeaaglogieaaGreat
open Go.RowKit

/-- The cells of a row of messages. -/
def lmC (c : Lm) : List Value := [iV c.m.K, iV c.m.F, iV c.m.R, lmV c]
def lmL : List Lm → List Value
  | [] => []
  | c :: L => lmC c ++ lmL L
theorem lmL_append (L M : List Lm) : lmL (L ++ M) = lmL L ++ lmL M := by
  induction L with
  | nil => rfl
  | cons c L ih => show lmC c ++ lmL (L ++ M) = (lmC c ++ lmL L) ++ lmL M; rw [ih, List.append_assoc]
theorem lmL_len (L : List Lm) : (lmL L).length = L.length * 4 := by
  induction L with
  | nil => rfl
  | cons c L ih => show (lmC c ++ lmL L).length = _; rw [List.length_append, ih, List.length_cons]; show 4 + _ = _; omega
theorem lmL_one {L : List Lm} : ∀ u, u ∈ lmL L → u.oneCell' = true := by
  induction L with
  | nil => intro u hu; exact absurd hu (List.not_mem_nil)
  | cons c L ih =>
    intro u hu
    rcases List.mem_append.1 hu with h | h
    · unfold lmC lmV iV at h
      simp at h
      rcases h with rfl | rfl | rfl | rfl <;> rfl
    · exact ih u h
theorem lmL_at (L : List Lm) : ∀ (i : Nat) (c : Lm), L[i]? = some c → ∀ k, k < 4 → (lmL L)[i * 4 + k]? = some (lmF c k) := by
  induction L with
  | nil => intro i c h; simp at h
  | cons d L ih =>
    intro i c h k hk
    show (lmC d ++ lmL L)[i * 4 + k]? = _
    cases i with
    | zero =>
      have e : d = c := by simpa using h
      subst e
      rw [List.getElem?_append_left (by show 0 * 4 + k < 4; omega)]
      match k, hk with
      | 0, _ => rfl
      | 1, _ => rfl
      | 2, _ => rfl
      | 3, _ => rfl
    | succ i =>
      rw [List.getElem?_append_right (by show 4 ≤ _; omega)]
      have := ih i c (by simpa using h) k hk
      rw [← this]
      congr 1
      show (i + 1) * 4 + k - 4 = _
      omega
theorem infoMs : (Tryz.prog.info? 41).map (fun i => (i.zero, i.size, i.bytes)) = some (some (.agg #[.int .i64 0, .int .i64 0, .int .i64 0, .slice none 0 0]), 4, 48) := by kernel_rfl
/-- A message's numbers of one's own; messages of one's own. -/
def OwnV (w : World) (B : Nat) (c : Lm) : Prop := w.ownsRow B 3 1 (lmV c) c.m.L.length (rowV (iF (gL c.m.L)) c.m.L.length)
def OwnM (w : World) (B : Nat) (v : Value) (L : List Lm) : Prop := w.ownsRow B 41 4 v L.length (lmL L) ∧ ∀ c, c ∈ L → OwnV w B c
theorem own_type {t : TypeId} {B s n b : Nat} {w : World} {v : Value} {xs : List Value} (h : w.ownsRow B t s v n xs) (e : v.ownBlock = some b) : ∃ cur, w.heap[b]? = some (.cells cur t (0, 0)) := by
  rcases h.2 with ⟨rfl, h0⟩ | ⟨g, c, cur, rfl, hb, hg, _⟩
  · cases e
  · cases e; exact ⟨cur, hg⟩
theorem OwnM.below {w w' : World} {B : Nat} {v : Value} {L : List Lm} (h : OwnM w B v L) (k : Below w.heap.size w w') : OwnM w' B v L := ⟨rw_below h.1 k, fun c hc => rw_below (h.2 c hc) k⟩
theorem OwnM.nil (w : World) (B : Nat) : OwnM w B (.slice none 0 0) [] := ⟨World.ownsRow_nil _ _ _ _, fun _ h => absurd h (List.not_mem_nil)⟩
theorem OwnM.rd {w : World} {B n cap : Nat} {ao : Option Addr} {L : List Lm} (h : OwnM w B (.slice ao n cap) L) (hl : ∀ c, c ∈ L → c.m.L.length ≤ 17592186044404) : MRd w ao L := by
  refine ⟨fun hp => ?_, fun c hc => ?_⟩
  · rcases h.1.2 with ⟨e, h0⟩ | ⟨g, cp, cur, e, hb, hg, hc, hm, hsz, hcur⟩
    · omega
    · cases e
      refine ⟨g, 0, rfl, fun i c hi k hk => ?_⟩
      have hlt := (List.getElem?_eq_some_iff.1 hi).1
      have h1 := lmL_at L i c hi k hk
      have hL := lmL_len L
      rw [← hcur, List.getElem?_take, if_pos (by omega), Array.getElem?_toList] at h1
      unfold World.cell?
      rw [hg]
      show cur[0 + i * 4 + k]? = _
      rw [Nat.zero_add]
      exact h1
  · obtain ⟨ao2, cap2, e, hs, hc2⟩ := owns_sr (h.2 c hc)
    unfold lmV at e
    cases e
    exact ⟨hs, hc2, hl c hc⟩
/-- A row of one message; one message appended. -/
theorem wp_oneMs (w : World) {o : Oper} {a : Act} {K : Act → World → Prop} {Q : Exit → Act → World → Prop} (x : Operand) (ho : o.op = .buildSlice 38 1 #[(0, x)]) {c : Lm} (hx : a.eval x = agV (lmF c) 0 4)
    (h : ∀ w', Vh 41 w' w.heap.size 4 4 (lmF c) → Below w.heap.size w w' → w'.heap.size = w.heap.size + 1 → K (a.put o.dst (.slice (some ⟨w.heap.size, 0, none⟩) 1 1)) w') : WpI Tryz.prog o a w K Q := by
  have hh := h (w.alloc (.cells #[.int .i64 c.m.K, .int .i64 c.m.F, .int .i64 c.m.R, .slice c.ao c.m.L.length c.cap] 41)) (Vh.of_row (lmF c) 4 (by decide) (by show (w.heap.push _)[w.heap.size]? = _; rw [Array.getElem?_push_size]; rfl)) (al_below _ _) (al_size _ _)
  have hx' : a.eval x = .agg #[.int .i64 c.m.K, .int .i64 c.m.F, .int .i64 c.m.R, .slice c.ao c.m.L.length c.cap] := hx
  have e : (execOp a.eval o).run Tryz.prog w = .ok (.value (.slice (some ⟨w.heap.size, 0, none⟩) 1 1)) (w.alloc (.cells #[.int .i64 c.m.K, .int .i64 c.m.F, .int .i64 c.m.R, .slice c.ao c.m.L.length c.cap] 41)) := by
    clear hx hh
    generalize a.eval = f at hx'
    unfold execOp
    rw [ho]
    simp only [List.map_toArray, List.map_cons, List.map_nil]
    rw [hx']
    go_simp
  refine ⟨?_⟩
  unfold Oper.wp
  rw [e]
  exact hh
theorem wp_joinM (w : World) {o : Oper} {a : Act} {K : Act → World → Prop} {Q : Exit → Act → World → Prop} (s x : Operand)
    (ho : o.op = .call { callee := .builtin .append, args := #[s, x], argTypes := #[38, 38] }) (B : Nat) (hB : B ≤ w.heap.size)
    (v : Value) (L : List Lm) (hs : a.eval s = v) (hown : OwnM w B v L) (b : Nat) (c : Lm) (hx : a.eval x = .slice (some ⟨b, 0, none⟩) 1 1) (hc : Vh 41 w b 4 4 (lmF c)) (hcB : OwnV w B c) (hl : L.length ≤ 2932031007317)
    (h : ∀ v' w', OwnM w' B v' (L ++ [c]) → Below B w w' → K (a.put o.dst v') w') : WpI Tryz.prog o a w K Q := by
  obtain ⟨i0, hi, hz0, hz1, hz2⟩ := info_parts infoMs
  refine ⟨?_⟩
  refine wp_append_own (P := Tryz.prog) w s x 38 ho B 41 i0 (.agg #[.int .i64 0, .int .i64 0, .int .i64 0, .slice none 0 0]) 4 48 Tryz.underlying38 hi hz0 hz1 hz2 rfl (by decide) v L.length (lmL L) hs hown.1 ⟨b, 0, none⟩ 1 1 (lmL [c]) hx rfl ?_ lmL_one (by unfold maxLen; omega) (by omega) hB ?_
  · intro j u hj
    rw [Addr.add_lit, Nat.zero_add]
    rcases Nat.lt_or_ge j 4 with h4 | h4
    · have h1 := lmL_at [c] 0 c rfl j h4
      rw [Nat.zero_mul, Nat.zero_add] at h1
      rw [h1] at hj
      cases hj
      exact hc.cell h4
    · rw [List.getElem?_eq_none (by rw [lmL_len]; exact h4)] at hj
      cases hj
  · intro v' w2 ho2 hgr _
    have apart : ∀ d, OwnV w B d → ∀ g, (lmV d).ownBlock = some g → v.ownBlock ≠ some g := fun d hd g hg e => by
      obtain ⟨u1, hu1⟩ := own_type hd hg
      obtain ⟨u2, hu2⟩ := own_type hown.1 e
      rw [hu1] at hu2
      cases hu2
    refine h v' w2 ⟨?_, ?_⟩ ?_
    · rw [List.length_append, lmL_append]; exact ho2
    · intro d hd
      rcases List.mem_append.1 hd with hd | hd
      · exact rw_grown (hown.2 d hd) hgr (apart d (hown.2 d hd))
      · simp at hd; subst hd
        exact rw_grown hcB hgr (apart d hcB)
    · refine ⟨hgr.os, hgr.tape, hgr.output, hgr.size, fun k hk => hgr.block k (by omega) (fun e => ?_)⟩
      have := (hown.1.lt k e.symm).1
      omega

end Go.Proofs.YtngmeaaglogieaaGreat

namespace Go.Proofs.YtngmeaaglogieaaGreat
open Go.RowKit

theorem enter_msg (x : Value) (w : World) : (callFunc 20 #[x]).run Tryz.prog w = .ok (.enter 20 #[x]) w := by go_simp
set_option maxHeartbeats 2000000 in
theorem messages_any (mo : Option Addr) (mc : Nat) (L : List Lm) (w : World) (hr : MRd w mo L) (hN : L.length ≤ 2932031007317) :
    Calls Tryz.prog 6 #[.slice mo L.length mc] w fun e w' => ∃ mo' mc' M, e = .returned (.slice mo' L.length mc') ∧ M.map Lm.m = L.map Lm.m ∧ OwnM w' w.heap.size (.slice mo' L.length mc') M ∧ L.length ≤ mc' ∧ Below w.heap.size w w' := by
  refine enterF Tryz.func6 rfl 20 rfl (of_decide_eq_true rfl) (fun A hs hd hb => ?_)
  have b0 : A.eval (.tmp 0) = .slice mo L.length mc := hb 0 _ rfl
  clear hb
  refine c_rs (m_start ?_)
  refine m_mv rfl (wanted_rd rfl) (run_assign _ rfl (ev_const _ _) _) ?_
  refine l_nx ?_
  refine c_rs ?_
  refine m_mv rfl (wanted_rd rfl) (run_assign _ rfl (ev_const _ _) _) ?_
  refine l_nx ?_
  refine c_nx ?_
  refine c_rs ?_
  refine m_mv rfl (wanted_rd rfl) (run_assign _ rfl (ev_const _ _) _) ?_
  refine l_nx ?_
  refine c_block ?_
  refine c_loop (fun r a W => ∃ (i : Nat) (v : Value) (M : List Lm), i ≤ L.length ∧ L.length - i ≤ r ∧ a.tmps.size = 20 ∧ a.defers = [] ∧ a.eval (.tmp 0) = .slice mo L.length mc ∧ a.eval (.tmp 3) = v ∧ a.eval (.tmp 4) = .int .i64 (i : Int) ∧ M.map Lm.m = (L.take i).map Lm.m ∧ OwnM W w.heap.size v M ∧ Below w.heap.size w W) L.length ⟨0, _, [], by omega, by omega, (szL _ _).trans hs, (defL _ _).trans hd, (ev_out rfl b0), (ev_in rfl (by omega)), (ev_in rfl (by omega)), rfl, OwnM.nil _ _, Below.refl _ _⟩ (fun r B W hI => ?_)
  clear b0 hs hd
  obtain ⟨i, v, M, hi, hr2, hs, hd, b0, b3, b4, hM, ov, kB⟩ := hI
  have hW := kB.size
  have hML : M.length = i := by have := congrArg List.length hM; simp at this; omega
  by_cases hin : i < L.length
  · refine c_nx ?_
    refine c_rs (m_start ?_)
    refine m_mv rfl (wanted_rd rfl) (run_move _ rfl (ev_out rfl b4) _) ?_
    refine m_mv rfl (wanted_rd rfl) (run_move _ rfl (ev_out rfl b0) _) ?_
    refine m_mv rfl (wanted_rd rfl) (run_lenM _ rfl (ev_in rfl (by omega)) _) ?_
    refine m_mv rfl (wanted_rd rfl) (run_lssI (b := true) _ _ rfl (ev_in rfl (by omega)) (ev_in rfl (by omega)) (decide_eq_true (by omega)) _) ?_
    refine l_nx ?_
    refine c_true (ev_in rfl (by omega)) (c_fin ?_)
    refine c_nx (c_block ?_)
    refine c_region ?_
    have hc := List.getElem?_eq_getElem hin
    obtain ⟨c, ec⟩ : ∃ c, c = L[i] := ⟨_, rfl⟩
    rw [← ec] at hc
    obtain ⟨pb, po, rfl, hcell⟩ := (hr.below kB).1 (by omega)
    have hcell := hcell i c hc
    have hlv := (hr.below kB).2 c (by rw [ec]; exact List.getElem_mem hin)
    refine m_mv rfl (wanted_rd rfl) (run_move _ rfl (ev_out rfl b3) _) ?_
    refine m_mv rfl (wanted_rd rfl) (run_move _ rfl (ev_out rfl b0) _) ?_
    refine m_mv rfl (wanted_rd rfl) (run_move _ rfl (ev_out rfl b4) _) ?_
    refine m_mv rfl (wanted_rd rfl) (run_ixM _ _ rfl (ev_in rfl (by omega)) (ev_in rfl (by omega)) rfl hin _) ?_
    refine m_mv rfl (wanted_rd rfl) (run_lodM _ rfl (ev_in rfl (by omega)) hcell) ?_
    refine m_do rfl (wanted_rd rfl) (fun K hK => ?_)
    refine wp_call1 _ 20 _ _ rfl (ev_in rfl (by omega)) (enter_msg _ _) (message_any c.m.K c.m.F c.m.R c.ao c.m.L.length c.cap (gL c.m.L) _ hlv.1 hlv.2.2) ?_
    rintro e w1 ⟨a3, c3, rfl, o1, k1⟩
    have n1 := k1.size
    have ov1 := ov.below k1
    refine ⟨_, rfl, ?_⟩
    refine hK _ _ ?_
    clear hK K
    refine m_do rfl (wanted_rd rfl) (fun K hK => ?_)
    refine wp_oneMs _ _ rfl (c := ⟨c.m, a3, c3⟩) (ev_in rfl (by omega)) ?_
    intro w2 m2 k2 z2
    have ov2 := ov1.below k2
    refine hK _ _ ?_
    clear hK K
    refine m_do rfl (wanted_rd rfl) (fun K hK => ?_)
    refine wp_joinM _ _ _ rfl w.heap.size (by omega) v M (ev_in rfl (by omega)) ov2 _ ⟨c.m, a3, c3⟩ (ev_in rfl (by omega)) m2 (rw_base (rw_below o1 k2) (by omega)) (by omega) ?_
    intro v3 w3 ov3 k3
    have n3 := k3.size
    refine hK _ _ ?_
    clear hK K
    refine m_mv rfl (wanted_rd rfl) (run_assign _ rfl (ev_in rfl (by omega)) _) ?_
    refine l_finB ?_
    refine c_region ?_
    refine m_mv rfl (wanted_rd rfl) (run_move _ rfl (ev_out rfl b4) _) ?_
    refine m_mv rfl (wanted_rd rfl) (run_addI _ _ rfl (ev_in rfl (by omega)) (ev_const _ _) (by omega) (by omega) _) ?_
    refine m_mv rfl (wanted_rd rfl) (run_assign _ rfl (ev_in rfl (by omega)) _) ?_
    exact l_round ⟨L.length - (i + 1), by omega, i + 1, _, _, by omega, by omega, (szL _ _).trans hs, (defL _ _).trans hd, (ev_out rfl b0), (ev_in rfl (by omega)), (ev_in rfl (by omega)).trans (by rw [Int.natCast_add]; rfl), by rw [List.map_append, hM, List.take_add_one, hc, List.map_append]; rfl, ov3, ((kB.trans (k1.mono (by omega))).trans (k2.mono (by omega))).trans k3⟩
  · refine c_nx ?_
    refine c_rs (m_start ?_)
    refine m_mv rfl (wanted_rd rfl) (run_move _ rfl (ev_out rfl b4) _) ?_
    refine m_mv rfl (wanted_rd rfl) (run_move _ rfl (ev_out rfl b0) _) ?_
    refine m_mv rfl (wanted_rd rfl) (run_lenM _ rfl (ev_in rfl (by omega)) _) ?_
    refine m_mv rfl (wanted_rd rfl) (run_lssI (b := false) _ _ rfl (ev_in rfl (by omega)) (ev_in rfl (by omega)) (decide_eq_false (by omega)) _) ?_
    obtain rfl : i = L.length := by omega
    rw [List.take_length] at hM
    obtain ⟨ao, cap, rfl, hcap⟩ := rw_slice ov.1
    rw [hML] at ov hcap
    refine l_nx ?_
    refine c_false (ev_in rfl (by omega)) (c_exit (x_out ?_))
    refine c_rs ?_
    refine m_mv rfl (wanted_rd rfl) (run_move _ rfl (ev_out rfl b3) _) ?_
    refine m_mv rfl (wanted_rd rfl) (run_assign _ rfl (ev_in rfl (by omega)) _) ?_
    refine l_nx ?_
    refine c_ret ?_
    refine ret_of ((defL _ _).trans hd) (res_t rfl (ev_in rfl (by omega))) ⟨ao, cap, M, by rw [hML], hM, ov, hcap, kB⟩

end Go.Proofs.YtngmeaaglogieaaGreat

namespace Go.Proofs.YtngmeaaglogieaaGreat
open Go.RowKit

theorem run_eqI4 (d : Nat) (a b c e : Int) (w : World) : (Op.equalIn (d + 1 + 1) 28 (.agg #[.int .i64 a, .int .i64 b, .int .i64 c, .int .i64 e]) (.agg #[.int .i64 a, .int .i64 b, .int .i64 c, .int .i64 e])).run Tryz.prog w = .ok true w := by
  have u3 := Tryz.underlying3
  have a3 := Tryz.isAgg3
  have z3 := Tryz.sizeOf3
  have ta : (a == a) = true := by simp
  have tb : (b == b) = true := by simp
  have tc : (c == c) = true := by simp
  have td : (e == e) = true := by simp
  rw [Op.equalIn]
  simp only [Sem.run_bind, run_underlying Tryz.underlying28, Result.andThen_ok]
  simp only [Std.Legacy.Range.forIn_eq_forIn_range', Std.Legacy.Range.size, Nat.sub_zero, Nat.add_sub_cancel, Nat.div_one, List.range'_succ, List.range'_zero, List.forIn_cons, List.forIn_nil]
  go_simp
theorem run_eqB4 (d : Nat) (a b c e : Bool) (w : World) : (Op.equalIn (d + 1 + 1) 27 (.agg #[.bool a, .bool b, .bool c, .bool e]) (.agg #[.bool a, .bool b, .bool c, .bool e])).run Tryz.prog w = .ok true w := by
  have u3 := Tryz.underlying4
  have a3 := Tryz.isAgg4
  have z3 := Tryz.sizeOf4
  have ta : (a == a) = true := by simp
  have tb : (b == b) = true := by simp
  have tc : (c == c) = true := by simp
  have td : (e == e) = true := by simp
  rw [Op.equalIn]
  simp only [Sem.run_bind, run_underlying Tryz.underlying27, Result.andThen_ok]
  simp only [Std.Legacy.Range.forIn_eq_forIn_range', Std.Legacy.Range.size, Nat.sub_zero, Nat.add_sub_cancel, Nat.div_one, List.range'_succ, List.range'_zero, List.forIn_cons, List.forIn_nil]
  go_simp
set_option maxRecDepth 100000 in
theorem run_eqRl (r : Rl) (w : World) : (Op.equalIn 10000 30 (rollV r) (rollV r)).run Tryz.prog w = .ok true w := by
  have u3 := Tryz.underlying28
  have a3 := Tryz.isAgg28
  have z3 := Tryz.sizeOf28
  have u4 := Tryz.underlying27
  have a4 := Tryz.isAgg27
  have z4 := Tryz.sizeOf27
  have h0 := run_eqB4 9997 (r.I 0) (r.I 1) (r.I 2) (r.I 3) w
  have h1 := run_eqI4 9997 (r.M 0) (r.M 1) (r.M 2) (r.M 3) w
  have h2 := run_eqI4 9997 (r.J 0) (r.J 1) (r.J 2) (r.J 3) w
  unfold rollV
  rw [show (10000 : Nat) = 9997 + 1 + 1 + 1 from rfl, Op.equalIn]
  simp only [Sem.run_bind, run_underlying Tryz.underlying30, Result.andThen_ok]
  go_simp
theorem run_eqlRl {f : Operand → Value} {o : Oper} (x y : Operand) (ho : o.op = .binOp .eql 30 x y 30) {r : Rl} (hx : f x = rollV r) (hy : f y = rollV r) (w : World) :
    (execOp f o).run Tryz.prog w = .ok (.value (.bool true)) w := by
  have h0 : (Op.equalIn 9999 27 (.agg #[.bool (r.I 0), .bool (r.I 1), .bool (r.I 2), .bool (r.I 3)]) (.agg #[.bool (r.I 0), .bool (r.I 1), .bool (r.I 2), .bool (r.I 3)])).run Tryz.prog w = .ok true w := run_eqB4 9997 (r.I 0) (r.I 1) (r.I 2) (r.I 3) w
  have h1 : (Op.equalIn 9999 28 (.agg #[.int .i64 (r.M 0), .int .i64 (r.M 1), .int .i64 (r.M 2), .int .i64 (r.M 3)]) (.agg #[.int .i64 (r.M 0), .int .i64 (r.M 1), .int .i64 (r.M 2), .int .i64 (r.M 3)])).run Tryz.prog w = .ok true w := run_eqI4 9997 (r.M 0) (r.M 1) (r.M 2) (r.M 3) w
  have h2 : (Op.equalIn 9999 28 (.agg #[.int .i64 (r.J 0), .int .i64 (r.J 1), .int .i64 (r.J 2), .int .i64 (r.J 3)]) (.agg #[.int .i64 (r.J 0), .int .i64 (r.J 1), .int .i64 (r.J 2), .int .i64 (r.J 3)])).run Tryz.prog w = .ok true w := run_eqI4 9997 (r.J 0) (r.J 1) (r.J 2) (r.J 3) w
  unfold rollV at hx hy
  unfold execOp
  rw [ho]
  dsimp only
  rw [hx, hy]
  go_simp

end Go.Proofs.YtngmeaaglogieaaGreat

namespace Go.Proofs.YtngmeaaglogieaaGreat
open Go.RowKit

theorem run_eqI3 (d : Nat) (g : Nat → Int) (w : World) : (Op.equalIn (d + 1 + 1) 31 (.agg #[.int .i64 (g 0), .int .i64 (g 1), .int .i64 (g 2)]) (.agg #[.int .i64 (g 0), .int .i64 (g 1), .int .i64 (g 2)])).run Tryz.prog w = .ok true w := by
  have u3 := Tryz.underlying3
  have a3 := Tryz.isAgg3
  have z3 := Tryz.sizeOf3
  have t0 : (g 0 == g 0) = true := by simp
  have t1 : (g 1 == g 1) = true := by simp
  have t2 : (g 2 == g 2) = true := by simp
  rw [Op.equalIn]
  simp only [Sem.run_bind, run_underlying Tryz.underlying31, Result.andThen_ok]
  simp only [Std.Legacy.Range.forIn_eq_forIn_range', Std.Legacy.Range.size, Nat.sub_zero, Nat.add_sub_cancel, Nat.div_one, List.range'_succ, List.range'_zero, List.forIn_cons, List.forIn_nil]
  go_simp
theorem run_eqSt (d : Nat) (s : St) (w : World) : (Op.equalIn (d + 1 + 1) 25 (.agg #[.int .i64 (s).X, .int .i64 (s).V, .int .i64 (s).P00, .int .i64 (s).P01, .int .i64 (s).P11, .bool (s).B, .int .i64 (s).M]) (.agg #[.int .i64 (s).X, .int .i64 (s).V, .int .i64 (s).P00, .int .i64 (s).P01, .int .i64 (s).P11, .bool (s).B, .int .i64 (s).M])).run Tryz.prog w = .ok true w := by
  have u3 := Tryz.underlying3
  have a3 := Tryz.isAgg3
  have z3 := Tryz.sizeOf3
  have u4 := Tryz.underlying4
  have a4 := Tryz.isAgg4
  have z4 := Tryz.sizeOf4
  have tX : (s.X == s.X) = true := by simp
  have tV : (s.V == s.V) = true := by simp
  have tP00 : (s.P00 == s.P00) = true := by simp
  have tP01 : (s.P01 == s.P01) = true := by simp
  have tP11 : (s.P11 == s.P11) = true := by simp
  have tB : (s.B == s.B) = true := by simp
  have tM : (s.M == s.M) = true := by simp
  rw [Op.equalIn]
  simp only [Sem.run_bind, run_underlying Tryz.underlying25, Result.andThen_ok]
  go_simp
theorem run_eqlTn {f : Operand → Value} {o : Oper} (x y : Operand) (ho : o.op = .binOp .eql 23 x y 23) {t : Tn} (hx : f x = agV (ntnF t) 0 4) (hy : f y = agV (ntnF t) 0 4) (w : World) : (execOp f o).run Tryz.prog w = .ok (.value (.bool true)) w := by
  have hx' : f x = .agg #[.int .i64 t.Dt, .int .i64 t.Q, .int .i64 t.R, .int .i64 t.G] := hx
  have hy' : f y = .agg #[.int .i64 t.Dt, .int .i64 t.Q, .int .i64 t.R, .int .i64 t.G] := hy
  clear hx hy
  have u3 := Tryz.underlying3
  have a3 := Tryz.isAgg3
  have z3 := Tryz.sizeOf3
  unfold execOp
  rw [ho]
  dsimp only
  rw [hx', hy']
  go_simp
theorem run_eqlI4 {f : Operand → Value} {o : Oper} (x y : Operand) (ho : o.op = .binOp .eql 28 x y 28) {g : Nat → Int} (hx : f x = agV (fun j => iV (g j)) 0 4) (hy : f y = agV (fun j => iV (g j)) 0 4) (w : World) : (execOp f o).run Tryz.prog w = .ok (.value (.bool true)) w := by
  have hx' : f x = .agg #[.int .i64 (g 0), .int .i64 (g 1), .int .i64 (g 2), .int .i64 (g 3)] := hx
  have hy' : f y = .agg #[.int .i64 (g 0), .int .i64 (g 1), .int .i64 (g 2), .int .i64 (g 3)] := hy
  clear hx hy
  have h0 := run_eqI4 9998 (g 0) (g 1) (g 2) (g 3) w
  unfold execOp
  rw [ho]
  dsimp only
  rw [hx', hy']
  go_simp
theorem run_eqlI3 {f : Operand → Value} {o : Oper} (x y : Operand) (ho : o.op = .binOp .eql 31 x y 31) {g : Nat → Int} (hx : f x = agV (fun j => iV (g j)) 0 3) (hy : f y = agV (fun j => iV (g j)) 0 3) (w : World) : (execOp f o).run Tryz.prog w = .ok (.value (.bool true)) w := by
  have hx' : f x = .agg #[.int .i64 (g 0), .int .i64 (g 1), .int .i64 (g 2)] := hx
  have hy' : f y = .agg #[.int .i64 (g 0), .int .i64 (g 1), .int .i64 (g 2)] := hy
  clear hx hy
  have h0 := run_eqI3 9998 g w
  unfold execOp
  rw [ho]
  dsimp only
  rw [hx', hy']
  go_simp
set_option maxRecDepth 100000 in
theorem run_eqlSt3A (a : Nat → St) (w : World) : (Op.equalIn 10000 26 (.agg #[.int .i64 (a 0).X, .int .i64 (a 0).V, .int .i64 (a 0).P00, .int .i64 (a 0).P01, .int .i64 (a 0).P11, .bool (a 0).B, .int .i64 (a 0).M, .int .i64 (a 1).X, .int .i64 (a 1).V, .int .i64 (a 1).P00, .int .i64 (a 1).P01, .int .i64 (a 1).P11, .bool (a 1).B, .int .i64 (a 1).M, .int .i64 (a 2).X, .int .i64 (a 2).V, .int .i64 (a 2).P00, .int .i64 (a 2).P01, .int .i64 (a 2).P11, .bool (a 2).B, .int .i64 (a 2).M]) (.agg #[.int .i64 (a 0).X, .int .i64 (a 0).V, .int .i64 (a 0).P00, .int .i64 (a 0).P01, .int .i64 (a 0).P11, .bool (a 0).B, .int .i64 (a 0).M, .int .i64 (a 1).X, .int .i64 (a 1).V, .int .i64 (a 1).P00, .int .i64 (a 1).P01, .int .i64 (a 1).P11, .bool (a 1).B, .int .i64 (a 1).M, .int .i64 (a 2).X, .int .i64 (a 2).V, .int .i64 (a 2).P00, .int .i64 (a 2).P01, .int .i64 (a 2).P11, .bool (a 2).B, .int .i64 (a 2).M])).run Tryz.prog w = .ok true w := by
  have u3 := Tryz.underlying25
  have a3 := Tryz.isAgg25
  have z3 := Tryz.sizeOf25
  have h0 : (Op.equalIn (9997 + 1 + 1) 25 (.agg #[.int .i64 (a 0).X, .int .i64 (a 0).V, .int .i64 (a 0).P00, .int .i64 (a 0).P01, .int .i64 (a 0).P11, .bool (a 0).B, .int .i64 (a 0).M]) (.agg #[.int .i64 (a 0).X, .int .i64 (a 0).V, .int .i64 (a 0).P00, .int .i64 (a 0).P01, .int .i64 (a 0).P11, .bool (a 0).B, .int .i64 (a 0).M])).run Tryz.prog w = .ok true w := run_eqSt 9997 (a 0) w
  have h1 : (Op.equalIn (9997 + 1 + 1) 25 (.agg #[.int .i64 (a 1).X, .int .i64 (a 1).V, .int .i64 (a 1).P00, .int .i64 (a 1).P01, .int .i64 (a 1).P11, .bool (a 1).B, .int .i64 (a 1).M]) (.agg #[.int .i64 (a 1).X, .int .i64 (a 1).V, .int .i64 (a 1).P00, .int .i64 (a 1).P01, .int .i64 (a 1).P11, .bool (a 1).B, .int .i64 (a 1).M])).run Tryz.prog w = .ok true w := run_eqSt 9997 (a 1) w
  have h2 : (Op.equalIn (9997 + 1 + 1) 25 (.agg #[.int .i64 (a 2).X, .int .i64 (a 2).V, .int .i64 (a 2).P00, .int .i64 (a 2).P01, .int .i64 (a 2).P11, .bool (a 2).B, .int .i64 (a 2).M]) (.agg #[.int .i64 (a 2).X, .int .i64 (a 2).V, .int .i64 (a 2).P00, .int .i64 (a 2).P01, .int .i64 (a 2).P11, .bool (a 2).B, .int .i64 (a 2).M])).run Tryz.prog w = .ok true w := run_eqSt 9997 (a 2) w
  rw [show (10000 : Nat) = 9997 + 1 + 1 + 1 from rfl, Op.equalIn]
  simp only [Sem.run_bind, run_underlying Tryz.underlying26, Result.andThen_ok]
  simp only [Std.Legacy.Range.forIn_eq_forIn_range', Std.Legacy.Range.size, Nat.sub_zero, Nat.add_sub_cancel, Nat.div_one, List.range'_succ, List.range'_zero, List.forIn_cons, List.forIn_nil]
  go_simp
theorem run_eqlSt3 {f : Operand → Value} {o : Oper} (x y : Operand) (ho : o.op = .binOp .eql 26 x y 26) {a : Nat → St} (hx : f x = agV (fun j => nstF (a (j / 7)) (j % 7)) 0 21) (hy : f y = agV (fun j => nstF (a (j / 7)) (j % 7)) 0 21) (w : World) : (execOp f o).run Tryz.prog w = .ok (.value (.bool true)) w := by
  have hx' : f x = .agg #[.int .i64 (a 0).X, .int .i64 (a 0).V, .int .i64 (a 0).P00, .int .i64 (a 0).P01, .int .i64 (a 0).P11, .bool (a 0).B, .int .i64 (a 0).M, .int .i64 (a 1).X, .int .i64 (a 1).V, .int .i64 (a 1).P00, .int .i64 (a 1).P01, .int .i64 (a 1).P11, .bool (a 1).B, .int .i64 (a 1).M, .int .i64 (a 2).X, .int .i64 (a 2).V, .int .i64 (a 2).P00, .int .i64 (a 2).P01, .int .i64 (a 2).P11, .bool (a 2).B, .int .i64 (a 2).M] := hx
  have hy' : f y = .agg #[.int .i64 (a 0).X, .int .i64 (a 0).V, .int .i64 (a 0).P00, .int .i64 (a 0).P01, .int .i64 (a 0).P11, .bool (a 0).B, .int .i64 (a 0).M, .int .i64 (a 1).X, .int .i64 (a 1).V, .int .i64 (a 1).P00, .int .i64 (a 1).P01, .int .i64 (a 1).P11, .bool (a 1).B, .int .i64 (a 1).M, .int .i64 (a 2).X, .int .i64 (a 2).V, .int .i64 (a 2).P00, .int .i64 (a 2).P01, .int .i64 (a 2).P11, .bool (a 2).B, .int .i64 (a 2).M] := hy
  clear hx hy
  have h0 := run_eqlSt3A a w
  unfold execOp
  rw [ho]
  dsimp only
  rw [hx', hy']
  go_simp
set_option maxRecDepth 100000 in
theorem run_eql43A (g : Nat → Nat → Int) (w : World) : (Op.equalIn 10000 32 (.agg #[.int .i64 (g 0 0), .int .i64 (g 0 1), .int .i64 (g 0 2), .int .i64 (g 1 0), .int .i64 (g 1 1), .int .i64 (g 1 2), .int .i64 (g 2 0), .int .i64 (g 2 1), .int .i64 (g 2 2), .int .i64 (g 3 0), .int .i64 (g 3 1), .int .i64 (g 3 2)]) (.agg #[.int .i64 (g 0 0), .int .i64 (g 0 1), .int .i64 (g 0 2), .int .i64 (g 1 0), .int .i64 (g 1 1), .int .i64 (g 1 2), .int .i64 (g 2 0), .int .i64 (g 2 1), .int .i64 (g 2 2), .int .i64 (g 3 0), .int .i64 (g 3 1), .int .i64 (g 3 2)])).run Tryz.prog w = .ok true w := by
  have u3 := Tryz.underlying31
  have a3 := Tryz.isAgg31
  have z3 := Tryz.sizeOf31
  have h0 : (Op.equalIn (9997 + 1 + 1) 31 (.agg #[.int .i64 (g 0 0), .int .i64 (g 0 1), .int .i64 (g 0 2)]) (.agg #[.int .i64 (g 0 0), .int .i64 (g 0 1), .int .i64 (g 0 2)])).run Tryz.prog w = .ok true w := run_eqI3 9997 (g 0) w
  have h1 : (Op.equalIn (9997 + 1 + 1) 31 (.agg #[.int .i64 (g 1 0), .int .i64 (g 1 1), .int .i64 (g 1 2)]) (.agg #[.int .i64 (g 1 0), .int .i64 (g 1 1), .int .i64 (g 1 2)])).run Tryz.prog w = .ok true w := run_eqI3 9997 (g 1) w
  have h2 : (Op.equalIn (9997 + 1 + 1) 31 (.agg #[.int .i64 (g 2 0), .int .i64 (g 2 1), .int .i64 (g 2 2)]) (.agg #[.int .i64 (g 2 0), .int .i64 (g 2 1), .int .i64 (g 2 2)])).run Tryz.prog w = .ok true w := run_eqI3 9997 (g 2) w
  have h3 : (Op.equalIn (9997 + 1 + 1) 31 (.agg #[.int .i64 (g 3 0), .int .i64 (g 3 1), .int .i64 (g 3 2)]) (.agg #[.int .i64 (g 3 0), .int .i64 (g 3 1), .int .i64 (g 3 2)])).run Tryz.prog w = .ok true w := run_eqI3 9997 (g 3) w
  rw [show (10000 : Nat) = 9997 + 1 + 1 + 1 from rfl, Op.equalIn]
  simp only [Sem.run_bind, run_underlying Tryz.underlying32, Result.andThen_ok]
  simp only [Std.Legacy.Range.forIn_eq_forIn_range', Std.Legacy.Range.size, Nat.sub_zero, Nat.add_sub_cancel, Nat.div_one, List.range'_succ, List.range'_zero, List.forIn_cons, List.forIn_nil]
  go_simp
theorem run_eql43 {f : Operand → Value} {o : Oper} (x y : Operand) (ho : o.op = .binOp .eql 32 x y 32) {g : Nat → Nat → Int} (hx : f x = agV (fun j => iV (g (j / 3) (j % 3))) 0 12) (hy : f y = agV (fun j => iV (g (j / 3) (j % 3))) 0 12) (w : World) : (execOp f o).run Tryz.prog w = .ok (.value (.bool true)) w := by
  have hx' : f x = .agg #[.int .i64 (g 0 0), .int .i64 (g 0 1), .int .i64 (g 0 2), .int .i64 (g 1 0), .int .i64 (g 1 1), .int .i64 (g 1 2), .int .i64 (g 2 0), .int .i64 (g 2 1), .int .i64 (g 2 2), .int .i64 (g 3 0), .int .i64 (g 3 1), .int .i64 (g 3 2)] := hx
  have hy' : f y = .agg #[.int .i64 (g 0 0), .int .i64 (g 0 1), .int .i64 (g 0 2), .int .i64 (g 1 0), .int .i64 (g 1 1), .int .i64 (g 1 2), .int .i64 (g 2 0), .int .i64 (g 2 1), .int .i64 (g 2 2), .int .i64 (g 3 0), .int .i64 (g 3 1), .int .i64 (g 3 2)] := hy
  clear hx hy
  have h0 := run_eql43A g w
  unfold execOp
  rw [ho]
  dsimp only
  rw [hx', hy']
  go_simp
theorem manySt3 : Many Tryz.prog 26 21 := Many.of _ Tryz.underlying26 rfl (by kernel_rfl)
theorem ndF_axs (n : Nd) (v : Value) : ∀ j, j < 21 → ndF n v (0 + 6 + j) = (fun j => nstF (n.ax (j / 7)) (j % 7)) j := by
  intro j hj
  unfold ndF
  rw [if_neg (by omega), if_neg (by omega), if_pos (by omega), show 0 + 6 + j - 6 = j by omega]
theorem ndF_dis (n : Nd) (v : Value) : ∀ j, j < 12 → ndF n v (0 + 39 + j) = (fun j => iV (n.di (j / 3) (j % 3))) j := by
  intro j hj
  unfold ndF
  rw [if_neg (by omega), if_neg (by omega), if_neg (by omega), if_neg (by omega), if_pos (by omega), show 0 + 39 + j - 39 = j by omega]
theorem ndF_hes (n : Nd) (v : Value) : ∀ j, j < 4 → ndF n v (0 + 51 + j) = (fun j => iV (n.he j)) j := by
  intro j hj
  unfold ndF
  rw [if_neg (by omega), if_neg (by omega), if_neg (by omega), if_neg (by omega), if_neg (by omega), if_pos (by omega), show 0 + 51 + j - 51 = j by omega]
theorem ndF_ags (n : Nd) (v : Value) : ∀ j, j < 12 → ndF n v (0 + 55 + j) = (fun j => iV (n.ag (j / 3) (j % 3))) j := by
  intro j hj
  unfold ndF
  rw [if_neg (by omega), if_neg (by omega), if_neg (by omega), if_neg (by omega), if_neg (by omega), if_neg (by omega), if_pos (by omega), show 0 + 55 + j - 55 = j by omega]
theorem ndF_uss (n : Nd) (v : Value) : ∀ j, j < 3 → ndF n v (0 + 67 + j) = (fun j => iV (n.us j)) j := by
  intro j hj
  unfold ndF
  rw [if_neg (by omega), if_neg (by omega), if_neg (by omega), if_neg (by omega), if_neg (by omega), if_neg (by omega), if_neg (by omega), if_pos (by omega), show 0 + 67 + j - 67 = j by omega]

end Go.Proofs.YtngmeaaglogieaaGreat

namespace Go.Proofs.YtngmeaaglogieaaGreat
open Go.RowKit

/-- Two verdicts' variables. -/
theorem vd_pair (w : World) (X : Int) (S : Bool) (u v : Value) : ∃ w1, w1 = (w.alloc (.cells #[.int .i64 X, .bool S, u] 35)).alloc (.cells #[.int .i64 X, .bool S, v] 35) ∧
    VdAt w1 w.heap.size X S u ∧ VdAt w1 (w.heap.size + 1) X S v ∧ Below w.heap.size w w1 ∧ w1.heap.size = w.heap.size + 1 + 1 := by
  refine ⟨_, rfl, (VdAt.new w X S u).below (al_below _ _), ?_, ?_, ?_⟩
  · have h := VdAt.new (w.alloc (.cells #[.int .i64 X, .bool S, u] 35)) X S v
    rw [al_size] at h
    exact h
  · exact ((Below.refl _ _).alloc (Nat.le_refl _) _).alloc (by rw [al_size]; omega) _
  · rw [al_size, al_size]

set_option maxHeartbeats 1000000 in
theorem sameVerdict_ok (X : Int) (S : Bool) (ao bo : Option Addr) (l ca cb : Nat) (f g : Nat → Bool) (w : World) (hl : l ≤ 4611686018427387904) (ha : Rd w ao l (tF f)) (hb : Rd w bo l (tF g)) (he : ∀ i, i < l → f i = g i) :
    Calls Tryz.prog 27 #[vdV X S (.slice ao l ca), vdV X S (.slice bo l cb)] w fun e w' => e = .returned (.bool true) ∧ Below w.heap.size w w' := by
  obtain ⟨w1, e1, mA, mB, k1, s1⟩ := vd_pair w X S (.slice ao l ca) (.slice bo l cb)
  have a0 := mA.cell0; have a1 := mA.cell1; have a2 := mA.cell2
  have b0 := mB.cell0; have b1 := mB.cell1; have b2 := mB.cell2
  have tX : (X != X) = false := by simp
  have tS : (S != S) = false := by simp
  have tl : ((l : Int) != (l : Int)) = false := by simp
  have E1 := hide e1; have K1 := hide k1; have HA := hide (ha.below k1); have HB := hide (hb.below k1); have HE := hide he; have MA := hide mA; have MB := hide mB
  clear e1 mA mB k1 s1 ha hb he
  unfold vdV
  go_enter Tryz.func27, Tryz.ntmps27
  go_wp2_with fail
  rw [← unhide E1]
  go_wp2_with fail
  go_loopw [5, 30] (fun _ is wr => ∃ i : Nat, is = .int .i64 i ∧ i ≤ l ∧ Below w1.heap.size w1 wr)
    (fun _ is _ => l - (intOf is).toNat)
  case atStart => exact ⟨0, rfl, Nat.zero_le _, Below.refl _ _⟩
  case round =>
    obtain ⟨i, rfl, hi, hK⟩ := hrel
    rename World => wr
    clear a0 a1 a2 b0 b1 b2
    have a2 := ((unhide MA).below hK).cell2; have b2 := ((unhide MB).below hK).cell2
    by_cases hin : i < l
    · obtain ⟨b, o, rfl, hc⟩ := unhide HA (by omega)
      obtain ⟨p2, o2, rfl, hc2⟩ := unhide HB (by omega)
      have c1 : wr.cell? ⟨b, o + i, none⟩ = some (.bool (f i)) := at_below (hc i hin) hK
      have c2 : wr.cell? ⟨p2, o2 + i, none⟩ = some (.bool (g i)) := at_below (hc2 i hin) hK
      rw [unhide HE i hin] at c1
      have tg : ((g i) != (g i)) = false := by simp
      have HK := hide hK
      clear hK hc hc2
      go_wp2_with fail
      go_region
      go_wp2_with fail
      go_roundw
      case rel => exact ⟨i + 1, by go_num, by omega, below_drew (unhide HK)⟩
      case measure => simp [intOf] <;> omega
    · have hin2 : i = l := by omega
      subst hin2
      have HK := hide hK
      clear hK
      go_wp2_with fail
      go_ret
      exact ⟨rfl, (unhide K1).trans ((unhide HK).mono (unhide K1).size)⟩

end Go.Proofs.YtngmeaaglogieaaGreat

namespace Go.Proofs.YtngmeaaglogieaaGreat
open Go.RowKit

theorem enter_samev (x y : Value) (w : World) : (callFunc 27 #[x, y]).run Tryz.prog w = .ok (.enter 27 #[x, y]) w := by go_simp
set_option maxHeartbeats 2000000 in
theorem refSameNode_any (n : Nd) (ao bo : Option Addr) (c c2 : Nat) (w : World) (ha : Sr w ao n.vA.length c (tF (bA n))) (hb : Sr w bo n.vA.length c2 (tF (bA n))) (hl : n.vA.length ≤ 140737488351232) :
    Calls Tryz.prog 9 #[ndV n (.slice ao n.vA.length c), ndV n (.slice bo n.vA.length c2)] w fun e w' => e = .returned (.bool true) ∧ Below w.heap.size w w' := by
  refine enterF Tryz.func9 rfl 80 rfl (of_decide_eq_true rfl) (fun A hs hd hb => ?_)
  have b0 : A.eval (.tmp 0) = ndV n (.slice ao n.vA.length c) := hb 0 _ rfl
  have b1 : A.eval (.tmp 1) = ndV n (.slice bo n.vA.length c2) := hb 1 _ rfl
  clear hb
  refine c_rs (m_start ?_)
  refine m_do rfl (wanted_rd rfl) (fun K hK => ?_)
  refine wp_boxG _ _ _ rfl (ev_out rfl b0) (of_decide_eq_true rfl) ?_
  intro w1 m1 k1 z1
  have sa1 := ha.below k1
  have sb1 := hb.below k1
  refine hK _ _ ?_
  clear hK K
  refine m_do rfl (wanted_rd rfl) (fun K hK => ?_)
  refine wp_boxG _ _ _ rfl (ev_out rfl b1) (of_decide_eq_true rfl) ?_
  intro w2 m2 k2 z2
  have ma2 := m1.below k2
  have sa2 := sa1.below k2
  have sb2 := sb1.below k2
  refine hK _ _ ?_
  clear hK K
  refine m_mv rfl (wanted_rd rfl) (run_assign _ rfl (ev_const _ _) _) ?_
  refine l_nx ?_
  refine c_rs ?_
  refine m_mv rfl (wanted_rd rfl) (fldNd0 rfl (ev_in rfl (by omega)) _) ?_
  refine m_mv rfl (wanted_rd rfl) (run_lod1 (v := .int .i64 n.id) _ _ rfl oneI (ev_in rfl (by omega)) ma2 (by decide) rfl) ?_
  refine m_mv rfl (wanted_rd rfl) (fldNd0 rfl (ev_in rfl (by omega)) _) ?_
  refine m_mv rfl (wanted_rd rfl) (run_lod1 (v := .int .i64 n.id) _ _ rfl oneI (ev_in rfl (by omega)) m2 (by decide) rfl) ?_
  refine m_mv rfl (wanted_rd rfl) (run_eqlI (b := true) _ _ rfl (ev_in rfl (by omega)) (ev_in rfl (by omega)) (decide_eq_true rfl) _) ?_
  refine m_mv rfl (wanted_rd rfl) (run_move _ rfl (ev_in rfl (by omega)) _) ?_
  refine m_mv rfl (wanted_g (j := 5) rfl rfl rfl (ev_in rfl (by omega))) (fldNd1 rfl (ev_in rfl (by omega)) _) ?_
  refine m_mv rfl (wanted_g (j := 5) rfl rfl rfl (ev_in rfl (by omega))) (run_lod1 (v := .int .i64 n.fr) _ _ rfl oneI (ev_in rfl (by omega)) ma2 (by decide) rfl) ?_
  refine m_mv rfl (wanted_g (j := 5) rfl rfl rfl (ev_in rfl (by omega))) (fldNd1 rfl (ev_in rfl (by omega)) _) ?_
  refine m_mv rfl (wanted_g (j := 5) rfl rfl rfl (ev_in rfl (by omega))) (run_lod1 (v := .int .i64 n.fr) _ _ rfl oneI (ev_in rfl (by omega)) m2 (by decide) rfl) ?_
  refine m_mv rfl (wanted_g (j := 5) rfl rfl rfl (ev_in rfl (by omega))) (run_eqlI (b := true) _ _ rfl (ev_in rfl (by omega)) (ev_in rfl (by omega)) (decide_eq_true rfl) _) ?_
  refine m_mv rfl (wanted_rd rfl) (run_pickT' _ _ _ rfl (ev_in rfl (by omega)) (ev_in rfl (by omega)) _) ?_
  refine m_mv rfl (wanted_rd rfl) (run_move _ rfl (ev_in rfl (by omega)) _) ?_
  refine m_mv rfl (wanted_g (j := 12) rfl rfl rfl (ev_in rfl (by omega))) (fldNd2 rfl (ev_in rfl (by omega)) _) ?_
  refine m_mv rfl (wanted_g (j := 12) rfl rfl rfl (ev_in rfl (by omega))) (run_loadPe _ _ rfl manyTn (ev_in rfl (by omega)) ma2 (by decide) (ndF_tn _ _)) ?_
  refine m_mv rfl (wanted_g (j := 12) rfl rfl rfl (ev_in rfl (by omega))) (fldNd2 rfl (ev_in rfl (by omega)) _) ?_
  refine m_mv rfl (wanted_g (j := 12) rfl rfl rfl (ev_in rfl (by omega))) (run_loadPe _ _ rfl manyTn (ev_in rfl (by omega)) m2 (by decide) (ndF_tn _ _)) ?_
  refine m_mv rfl (wanted_g (j := 12) rfl rfl rfl (ev_in rfl (by omega))) (run_eqlTn _ _ rfl (ev_in rfl (by omega)) (ev_in rfl (by omega)) _) ?_
  refine m_mv rfl (wanted_rd rfl) (run_pickT' _ _ _ rfl (ev_in rfl (by omega)) (ev_in rfl (by omega)) _) ?_
  refine m_mv rfl (wanted_rd rfl) (run_move _ rfl (ev_in rfl (by omega)) _) ?_
  refine m_mv rfl (wanted_g (j := 19) rfl rfl rfl (ev_in rfl (by omega))) (fldNd3 rfl (ev_in rfl (by omega)) _) ?_
  refine m_mv rfl (wanted_g (j := 19) rfl rfl rfl (ev_in rfl (by omega))) (run_loadPe _ _ rfl manySt3 (ev_in rfl (by omega)) ma2 (by decide) (ndF_axs _ _)) ?_
  refine m_mv rfl (wanted_g (j := 19) rfl rfl rfl (ev_in rfl (by omega))) (fldNd3 rfl (ev_in rfl (by omega)) _) ?_
  refine m_mv rfl (wanted_g (j := 19) rfl rfl rfl (ev_in rfl (by omega))) (run_loadPe _ _ rfl manySt3 (ev_in rfl (by omega)) m2 (by decide) (ndF_axs _ _)) ?_
  refine m_mv rfl (wanted_g (j := 19) rfl rfl rfl (ev_in rfl (by omega))) (run_eqlSt3 _ _ rfl (ev_in rfl (by omega)) (ev_in rfl (by omega)) _) ?_
  refine m_mv rfl (wanted_rd rfl) (run_pickT' _ _ _ rfl (ev_in rfl (by omega)) (ev_in rfl (by omega)) _) ?_
  refine m_mv rfl (wanted_rd rfl) (run_move _ rfl (ev_in rfl (by omega)) _) ?_
  refine m_mv rfl (wanted_g (j := 26) rfl rfl rfl (ev_in rfl (by omega))) (fldNd4 rfl (ev_in rfl (by omega)) _) ?_
  refine m_mv rfl (wanted_g (j := 26) rfl rfl rfl (ev_in rfl (by omega))) (run_loadPe _ _ rfl manyRl (ev_in rfl (by omega)) ma2 (by decide) (ndF_rl _ _)) ?_
  refine m_mv rfl (wanted_g (j := 26) rfl rfl rfl (ev_in rfl (by omega))) (fldNd4 rfl (ev_in rfl (by omega)) _) ?_
  refine m_mv rfl (wanted_g (j := 26) rfl rfl rfl (ev_in rfl (by omega))) (run_loadPe _ _ rfl manyRl (ev_in rfl (by omega)) m2 (by decide) (ndF_rl _ _)) ?_
  refine m_mv rfl (wanted_g (j := 26) rfl rfl rfl (ev_in rfl (by omega))) (run_eqlRl _ _ rfl (ev_in rfl (by omega)) (ev_in rfl (by omega)) _) ?_
  refine m_mv rfl (wanted_rd rfl) (run_pickT' _ _ _ rfl (ev_in rfl (by omega)) (ev_in rfl (by omega)) _) ?_
  refine m_mv rfl (wanted_rd rfl) (run_move _ rfl (ev_in rfl (by omega)) _) ?_
  refine m_mv rfl (wanted_g (j := 33) rfl rfl rfl (ev_in rfl (by omega))) (fldNd5 rfl (ev_in rfl (by omega)) _) ?_
  refine m_mv rfl (wanted_g (j := 33) rfl rfl rfl (ev_in rfl (by omega))) (run_loadPe _ _ rfl many43 (ev_in rfl (by omega)) ma2 (by decide) (ndF_dis _ _)) ?_
  refine m_mv rfl (wanted_g (j := 33) rfl rfl rfl (ev_in rfl (by omega))) (fldNd5 rfl (ev_in rfl (by omega)) _) ?_
  refine m_mv rfl (wanted_g (j := 33) rfl rfl rfl (ev_in rfl (by omega))) (run_loadPe _ _ rfl many43 (ev_in rfl (by omega)) m2 (by decide) (ndF_dis _ _)) ?_
  refine m_mv rfl (wanted_g (j := 33) rfl rfl rfl (ev_in rfl (by omega))) (run_eql43 _ _ rfl (ev_in rfl (by omega)) (ev_in rfl (by omega)) _) ?_
  refine m_mv rfl (wanted_rd rfl) (run_pickT' _ _ _ rfl (ev_in rfl (by omega)) (ev_in rfl (by omega)) _) ?_
  refine m_mv rfl (wanted_rd rfl) (run_move _ rfl (ev_in rfl (by omega)) _) ?_
  refine m_mv rfl (wanted_g (j := 40) rfl rfl rfl (ev_in rfl (by omega))) (fldNd6 rfl (ev_in rfl (by omega)) _) ?_
  refine m_mv rfl (wanted_g (j := 40) rfl rfl rfl (ev_in rfl (by omega))) (run_loadPe _ _ rfl many4 (ev_in rfl (by omega)) ma2 (by decide) (ndF_hes _ _)) ?_
  refine m_mv rfl (wanted_g (j := 40) rfl rfl rfl (ev_in rfl (by omega))) (fldNd6 rfl (ev_in rfl (by omega)) _) ?_
  refine m_mv rfl (wanted_g (j := 40) rfl rfl rfl (ev_in rfl (by omega))) (run_loadPe _ _ rfl many4 (ev_in rfl (by omega)) m2 (by decide) (ndF_hes _ _)) ?_
  refine m_mv rfl (wanted_g (j := 40) rfl rfl rfl (ev_in rfl (by omega))) (run_eqlI4 _ _ rfl (ev_in rfl (by omega)) (ev_in rfl (by omega)) _) ?_
  refine m_mv rfl (wanted_rd rfl) (run_pickT' _ _ _ rfl (ev_in rfl (by omega)) (ev_in rfl (by omega)) _) ?_
  refine m_mv rfl (wanted_rd rfl) (run_move _ rfl (ev_in rfl (by omega)) _) ?_
  refine m_mv rfl (wanted_g (j := 47) rfl rfl rfl (ev_in rfl (by omega))) (fldNd7 rfl (ev_in rfl (by omega)) _) ?_
  refine m_mv rfl (wanted_g (j := 47) rfl rfl rfl (ev_in rfl (by omega))) (run_loadPe _ _ rfl many43 (ev_in rfl (by omega)) ma2 (by decide) (ndF_ags _ _)) ?_
  refine m_mv rfl (wanted_g (j := 47) rfl rfl rfl (ev_in rfl (by omega))) (fldNd7 rfl (ev_in rfl (by omega)) _) ?_
  refine m_mv rfl (wanted_g (j := 47) rfl rfl rfl (ev_in rfl (by omega))) (run_loadPe _ _ rfl many43 (ev_in rfl (by omega)) m2 (by decide) (ndF_ags _ _)) ?_
  refine m_mv rfl (wanted_g (j := 47) rfl rfl rfl (ev_in rfl (by omega))) (run_eql43 _ _ rfl (ev_in rfl (by omega)) (ev_in rfl (by omega)) _) ?_
  refine m_mv rfl (wanted_rd rfl) (run_pickT' _ _ _ rfl (ev_in rfl (by omega)) (ev_in rfl (by omega)) _) ?_
  refine m_mv rfl (wanted_rd rfl) (run_move _ rfl (ev_in rfl (by omega)) _) ?_
  refine m_mv rfl (wanted_g (j := 54) rfl rfl rfl (ev_in rfl (by omega))) (fldNd8 rfl (ev_in rfl (by omega)) _) ?_
  refine m_mv rfl (wanted_g (j := 54) rfl rfl rfl (ev_in rfl (by omega))) (run_loadPe _ _ rfl many3 (ev_in rfl (by omega)) ma2 (by decide) (ndF_uss _ _)) ?_
  refine m_mv rfl (wanted_g (j := 54) rfl rfl rfl (ev_in rfl (by omega))) (fldNd8 rfl (ev_in rfl (by omega)) _) ?_
  refine m_mv rfl (wanted_g (j := 54) rfl rfl rfl (ev_in rfl (by omega))) (run_loadPe _ _ rfl many3 (ev_in rfl (by omega)) m2 (by decide) (ndF_uss _ _)) ?_
  refine m_mv rfl (wanted_g (j := 54) rfl rfl rfl (ev_in rfl (by omega))) (run_eqlI3 _ _ rfl (ev_in rfl (by omega)) (ev_in rfl (by omega)) _) ?_
  refine m_mv rfl (wanted_rd rfl) (run_pickT' _ _ _ rfl (ev_in rfl (by omega)) (ev_in rfl (by omega)) _) ?_
  refine m_mv rfl (wanted_rd rfl) (run_move _ rfl (ev_in rfl (by omega)) _) ?_
  refine m_mv rfl (wanted_g (j := 61) rfl rfl rfl (ev_in rfl (by omega))) (fldNd9 rfl (ev_in rfl (by omega)) _) ?_
  refine m_mv rfl (wanted_g (j := 61) rfl rfl rfl (ev_in rfl (by omega))) (run_lod1 (v := .int .i64 n.dg) _ _ rfl oneI (ev_in rfl (by omega)) ma2 (by decide) rfl) ?_
  refine m_mv rfl (wanted_g (j := 61) rfl rfl rfl (ev_in rfl (by omega))) (fldNd9 rfl (ev_in rfl (by omega)) _) ?_
  refine m_mv rfl (wanted_g (j := 61) rfl rfl rfl (ev_in rfl (by omega))) (run_lod1 (v := .int .i64 n.dg) _ _ rfl oneI (ev_in rfl (by omega)) m2 (by decide) rfl) ?_
  refine m_mv rfl (wanted_g (j := 61) rfl rfl rfl (ev_in rfl (by omega))) (run_eqlI (b := true) _ _ rfl (ev_in rfl (by omega)) (ev_in rfl (by omega)) (decide_eq_true rfl) _) ?_
  refine m_mv rfl (wanted_rd rfl) (run_pickT' _ _ _ rfl (ev_in rfl (by omega)) (ev_in rfl (by omega)) _) ?_
  refine m_mv rfl (wanted_rd rfl) (run_move _ rfl (ev_in rfl (by omega)) _) ?_
  refine m_mv rfl (wanted_g (j := 68) rfl rfl rfl (ev_in rfl (by omega))) (fldNd10 rfl (ev_in rfl (by omega)) _) ?_
  refine m_mv rfl (wanted_g (j := 68) rfl rfl rfl (ev_in rfl (by omega))) (run_loadPe _ _ rfl manyVd (ev_in rfl (by omega)) ma2 (by decide) (ndF_vd _ _)) ?_
  refine m_mv rfl (wanted_g (j := 68) rfl rfl rfl (ev_in rfl (by omega))) (fldNd10 rfl (ev_in rfl (by omega)) _) ?_
  refine m_mv rfl (wanted_g (j := 68) rfl rfl rfl (ev_in rfl (by omega))) (run_loadPe _ _ rfl manyVd (ev_in rfl (by omega)) m2 (by decide) (ndF_vd _ _)) ?_
  refine m_do rfl (wanted_g (j := 68) rfl rfl rfl (ev_in rfl (by omega))) (fun K hK => ?_)
  refine wp_call2 _ 27 _ _ _ rfl (ev_in rfl (by omega)) (ev_in rfl (by omega)) (enter_samev _ _ _) (sameVerdict_ok n.vX n.vS ao bo n.vA.length c c2 (bA n) (bA n) _ (by have := hl; omega) sa2.rd sb2.rd (fun _ _ => rfl)) ?_
  rintro e w3 ⟨rfl, k3⟩
  refine ⟨_, rfl, ?_⟩
  refine hK _ _ ?_
  clear hK K
  refine m_mv rfl (wanted_rd rfl) (run_pickT' _ _ _ rfl (ev_in rfl (by omega)) (ev_in rfl (by omega)) _) ?_
  refine m_mv rfl (wanted_rd rfl) (run_assign _ rfl (ev_in rfl (by omega)) _) ?_
  refine l_nx ?_
  refine c_ret (ret_of ((defL _ _).trans hd) (res_t rfl (ev_in rfl (by omega))) ⟨rfl, (k1.trans (k2.mono (by omega))).trans (k3.mono (by omega))⟩)

end Go.Proofs.YtngmeaaglogieaaGreat

namespace Go.Proofs.YtngmeaaglogieaaGreat
open Go.RowKit

/-- A message as a value. -/
def msV (K F R : Int) (v : Value) : Value := .agg #[.int .i64 K, .int .i64 F, .int .i64 R, v]
/-- The block of a message's variable. -/
def MgAt (w : World) (b : Nat) (K F R : Int) (v : Value) : Prop := w.heap[b]? = some (.cells #[.int .i64 K, .int .i64 F, .int .i64 R, v] 41 (0, 0))
section
variable {w w' : World} {b : Nat} {K F R : Int} {v : Value}
theorem MgAt.cell0 (h : MgAt w b K F R v) : w.cell? ⟨b, 0, none⟩ = some (.int .i64 K) := by unfold MgAt at h; unfold World.cell?; rw [h]; rfl
theorem MgAt.cell1 (h : MgAt w b K F R v) : w.cell? ⟨b, 1, none⟩ = some (.int .i64 F) := by unfold MgAt at h; unfold World.cell?; rw [h]; rfl
theorem MgAt.cell2 (h : MgAt w b K F R v) : w.cell? ⟨b, 2, none⟩ = some (.int .i64 R) := by unfold MgAt at h; unfold World.cell?; rw [h]; rfl
theorem MgAt.cell3 (h : MgAt w b K F R v) : w.cell? ⟨b, 3, none⟩ = some v := by unfold MgAt at h; unfold World.cell?; rw [h]; rfl
theorem MgAt.free (h : MgAt w b K F R v) (i : Nat) : w.frozen? ⟨b, i, none⟩ = false := by unfold MgAt at h; simp [World.frozen?, h]
theorem MgAt.lt (h : MgAt w b K F R v) : b < w.heap.size := lt_of_block h
theorem MgAt.same (h : MgAt w b K F R v) (e : w'.heap[b]? = w.heap[b]?) : MgAt w' b K F R v := e.trans h
theorem MgAt.below (h : MgAt w b K F R v) (k : Below w.heap.size w w') : MgAt w' b K F R v := h.same (k.block b h.lt)
theorem MgAt.under {B : Nat} (h : MgAt w b K F R v) (k : Below B w w') (hb : b < B) : MgAt w' b K F R v := h.same (k.block b hb)
theorem MgAt.kept {z : Nat} (h : MgAt w b K F R v) (k : Kept z w w') (hz : b ≠ z) : MgAt w' b K F R v := h.same (k.block b h.lt hz)
theorem MgAt.new (w : World) (K F R : Int) (v : Value) : MgAt (w.alloc (.cells #[.int .i64 K, .int .i64 F, .int .i64 R, v] 41)) w.heap.size K F R v := by
  unfold MgAt
  show (w.heap.push _)[w.heap.size]? = _
  rw [Array.getElem?_push_size]
theorem MgAt.put (h : MgAt w b K F R v) (K' F' R' : Int) (u : Value) :
    ∃ w', w' = (((w.setCell ⟨b, 0, none⟩ (.int .i64 K')).setCell ⟨b, 1, none⟩ (.int .i64 F')).setCell ⟨b, 2, none⟩ (.int .i64 R')).setCell ⟨b, 3, none⟩ u ∧ MgAt w' b K' F' R' u ∧ Kept b w w' := by
  refine ⟨_, rfl, ?_, (((kept_set w b 0 _).trans (kept_set _ b 1 _) (Or.inl rfl)).trans (kept_set _ b 2 _) (Or.inl rfl)).trans (kept_set _ b 3 _) (Or.inl rfl)⟩
  unfold MgAt at h ⊢
  have h1 := heap_setCell_same w b 0 _ _ (.int .i64 K') h
  have h2 := heap_setCell_same _ b 1 _ _ (.int .i64 F') h1
  have h3 := heap_setCell_same _ b 2 _ _ (.int .i64 R') h2
  exact heap_setCell_same _ b 3 _ _ u h3
theorem MgAt.put2 (h : MgAt w b K F R v) (R' : Int) : ∃ w', w' = w.setCell ⟨b, 2, none⟩ (.int .i64 R') ∧ MgAt w' b K F R' v ∧ Kept b w w' := by
  refine ⟨_, rfl, ?_, kept_set w b 2 _⟩
  unfold MgAt at h ⊢
  exact heap_setCell_same w b 2 _ _ (.int .i64 R') h
theorem MgAt.put3 (h : MgAt w b K F R v) (u : Value) : ∃ w', w' = w.setCell ⟨b, 3, none⟩ u ∧ MgAt w' b K F R u ∧ Kept b w w' := by
  refine ⟨_, rfl, ?_, kept_set w b 3 _⟩
  unfold MgAt at h ⊢
  exact heap_setCell_same w b 3 _ _ u h
end
theorem mg_alloc (w : World) (K F R : Int) (v : Value) : ∃ w1, w1 = w.alloc (.cells #[.int .i64 K, .int .i64 F, .int .i64 R, v] 41) ∧ MgAt w1 w.heap.size K F R v ∧ Below w.heap.size w w1 ∧ w1.heap.size = w.heap.size + 1 :=
  ⟨_, rfl, MgAt.new w K F R v, al_below w _, al_size w _⟩
theorem below_le {w w' : World} {B C : Nat} (h : Below B w w') (e : C ≤ B) : Below C w w' := h.mono e

end Go.Proofs.YtngmeaaglogieaaGreat
