/- Joined: NodBld, NodTun, RefMem, RefNod11, Call5. -/
import Derived.Test.YthimcecbgpamdaaGreatNear172
import Derived.Test.YthimcecbgpamdaaGreatNear166
import Derived.Test.YthimcecbgpamdaaGreatNear95
namespace Go.Proofs.YthimcecbgpamdaaGreat
open Go.RowKit

section
variable {f : Operand → Value} {o : Oper}
theorem run_bldN0 (ho : o.op = .build 37 #[]) (w : World) : (execOp f o).run Tryz.prog w = .ok (.value (agV (ndF zeroN (.slice none 0 0)) 0 74)) w := by
  unfold execOp
  rw [ho]
  go_simp
  kernel_rfl
theorem run_bldN (a b c : Operand) (ho : o.op = .build 37 #[(0, a), (2, b), (4, c)]) {id : Int} {t : Tn} {r : Rl} (h0 : f a = .int .i64 id) (h1 : f b = agV (ntnF t) 0 4) (h2 : f c = rollV r) (w : World) :
    (execOp f o).run Tryz.prog w = .ok (.value (agV (ndF { zeroN with id := id, tn := t, rl := r } (.slice none 0 0)) 0 74)) w := by
  have h1' : f b = .agg #[.int .i64 t.Dt, .int .i64 t.Q, .int .i64 t.R, .int .i64 t.G] := h1
  unfold rollV at h2
  unfold execOp
  rw [ho]
  simp only [List.map_toArray, List.map_cons, List.map_nil]
  rw [h0, h1', h2]
  clear h0 h1 h1' h2 ho
  change _ = _
  kernel_rfl
end
theorem refBegS_any (w : World) : Calls Tryz.prog 55 #[.int .i64 0] w fun e w' => e = .returned (agV (nstF St.beg0) 0 7) ∧ Below w.heap.size w w' := by
  go_enter Tryz.func55, Tryz.ntmps55
  go_wp2_with fail
  refine bodyPost_ret (v := agV (nstF St.beg0) 0 7) (by simp [results, Tryz.results55, go_sem]; rfl) rfl ⟨rfl, ?_⟩
  exact ((Below.refl _ _).alloc (Nat.le_refl _) _).alloc (by rw [al_size]; omega) _

end Go.Proofs.YthimcecbgpamdaaGreat

namespace Go.Proofs.YthimcecbgpamdaaGreat
open Go.RowKit

theorem manyTn : Many Tryz.prog 23 4 := Many.of _ Tryz.underlying23 rfl (by kernel_rfl)
theorem ndF_tn (n : Nd) (v : Value) : ∀ j, j < 4 → ndF n v (0 + 2 + j) = ntnF n.tn j := by
  intro j hj
  unfold ndF
  rw [if_neg (by omega), if_pos (by omega), show 0 + 2 + j - 2 = j by omega]

end Go.Proofs.YthimcecbgpamdaaGreat

namespace Go.Proofs.YthimcecbgpamdaaGreat
open Go.RowKit

theorem refBegin_ok : BgOK 54 := by
  intro w
  obtain ⟨w1, e1, m1, k1, z1⟩ := r_alloc w zeroR
  have E1 := hide e1; have M1 := hide m1; have K1 := hide k1
  clear e1 m1 k1 z1
  go_enter Tryz.func54, Tryz.ntmps54
  unfold zeroR at E1
  dsimp only at E1
  go_wp2_with (refine wpList_storeRl _ rfl (.tmp 0) (.tmp 2) rfl rfl (r := beginR) rfl (by rw [← unhide E1]; exact unhide M1) rfl ?_)
  intro w5 m5 k5
  rw [← unhide E1] at k5
  have K5 := hide (below_of_kept (unhide K1) k5 (Nat.le_refl _) (unhide K1).size)
  clear k5
  go_wp2_with fail
  have p0 := m5.inn (i := 0) (by omega)
  have p1 := m5.inn (i := 1) (by omega)
  have p2 := m5.inn (i := 2) (by omega)
  have p3 := m5.inn (i := 3) (by omega)
  have p4 := m5.mis (i := 0) (by omega)
  have p5 := m5.mis (i := 1) (by omega)
  have p6 := m5.mis (i := 2) (by omega)
  have p7 := m5.mis (i := 3) (by omega)
  have p8 := m5.joi (i := 0) (by omega)
  have p9 := m5.joi (i := 1) (by omega)
  have p10 := m5.joi (i := 2) (by omega)
  have p11 := m5.joi (i := 3) (by omega)
  refine bodyPost_ret (v := rollV beginR) (by unfold rollV; simp [results, Tryz.results54, go_sem, p0, p1, p2, p3, p4, p5, p6, p7, p8, p9, p10, p11]) rfl ⟨rfl, unhide K5⟩

theorem refCount_ok : CtOK 91 := by
  intro r w
  obtain ⟨w1, e1, m1, k1, z1⟩ := r_alloc w r
  have E1 := hide e1; have M1 := hide m1; have K1 := hide k1
  clear e1 m1 k1 z1
  unfold rollV
  go_enter Tryz.func91, Tryz.ntmps91
  go_wp2_with fail
  rw [← unhide E1]
  go_loopw [3, 4] (fun ns is wr => w1 = wr ∧ ∃ i : Nat, is = .int .i64 i ∧ i ≤ 4 ∧ ns = .int .i64 (cn r.I i : Nat)) (fun _ is _ => 4 - (intOf is).toNat)
  case atStart => exact ⟨rfl, 0, rfl, by omega, rfl⟩
  case round =>
    obtain ⟨rfl, i, rfl, hi, rfl⟩ := hrel
    have hn : cn r.I i ≤ i := cn_le _ _
    by_cases hin : i < 4
    · have hin' : (i : Int) < 4 := by omega
      have ci := (unhide M1).inn hin
      have S := hide (show cn r.I (i + 1) = cn r.I i + if r.I i = true then 1 else 0 from rfl)
      cases hb : r.I i with
      | true =>
        rw [hb] at ci
        have T := hide (show cn r.I (i + 1) = cn r.I i + 1 by rw [unhide S, hb, if_pos rfl])
        go_wp2_with fail
        go_roundw
        case rel => exact ⟨trivial, i + 1, by go_num, by omega, by rw [unhide T]; go_num⟩
        case measure => simp [intOf] <;> omega
      | false =>
        rw [hb] at ci
        have T := hide (show cn r.I (i + 1) = cn r.I i by rw [unhide S, hb, if_neg (by decide)]; rfl)
        go_wp2_with fail
        go_roundw
        case rel => exact ⟨trivial, i + 1, by go_num, by omega, by rw [unhide T]⟩
        case measure => simp [intOf] <;> omega
    · have e9 : i = 4 := by omega
      subst e9
      rw [show ((4 : Nat) : Int) = 4 from rfl]
      go_wp2_with fail
      go_ret
      exact ⟨rfl, unhide K1⟩

set_option maxHeartbeats 2000000 in
theorem refGood_ok : GrOK 90 := by
  intro r w _
  obtain ⟨w1, e1, m1, k1, z1⟩ := r_alloc w r
  have E1 := hide e1; have M1 := hide m1; have K1 := hide k1
  clear e1 m1 k1 z1
  unfold rollV
  go_enter Tryz.func90, Tryz.ntmps90
  go_wp2_with fail
  rw [← unhide E1]
  go_loopw [3] (fun is wr => w1 = wr ∧ ∃ i : Nat, is = .int .i64 i ∧ i ≤ 4 ∧ ∀ j, j < i → gd r j = true) (fun is _ => 4 - (intOf is).toNat)
  case atStart => exact ⟨rfl, 0, rfl, by omega, fun j h => absurd h (by omega)⟩
  case round =>
    obtain ⟨rfl, i, rfl, hi, hg⟩ := hrel
    have HG := hide hg
    clear hg
    by_cases hin : i < 4
    · have hin' : (i : Int) < 4 := by omega
      have ci := (unhide M1).inn hin; have cm := (unhide M1).mis hin; have cj := (unhide M1).joi hin
      have NX := hide (fun h : gd r i = true => show ∀ j, j < i + 1 → gd r j = true from fun j hj => by
        by_cases e : j = i
        · rw [e]; exact h
        · exact unhide HG j (by omega))
      cases hb : r.I i with
      | true =>
        have G := hide (gd_in hb)
        rw [hb] at ci
        obtain ⟨m, em⟩ : ∃ m, r.M i = m := ⟨_, rfl⟩
        obtain ⟨t, et⟩ : ∃ t, r.J i = t := ⟨_, rfl⟩
        rw [em] at cm G
        rw [et] at cj G
        clear em et hb
        by_cases h1 : m < 0
        · have N := hide (show gdA r = false from gdA_no hin (by cases e : gd r i with | false => rfl | true => have := (unhide G).1 e; omega))
          have d1 : decide (m < 0) = true := decide_eq_true h1
          go_wp2_with fail
          go_ret
          exact ⟨by rw [unhide N]; rfl, unhide K1⟩
        · have d1 : decide (m < 0) = false := decide_eq_false h1
          by_cases h2 : 2 < m
          · have N := hide (show gdA r = false from gdA_no hin (by cases e : gd r i with | false => rfl | true => have := (unhide G).1 e; omega))
            have d2 : decide (2 < m) = true := decide_eq_true h2
            go_wp2_with fail
            go_ret
            exact ⟨by rw [unhide N]; rfl, unhide K1⟩
          · have d2 : decide (2 < m) = false := decide_eq_false h2
            by_cases h3 : t = 0
            · have Y := hide (unhide NX ((unhide G).2 ⟨by omega, by omega, h3⟩))
              subst h3
              go_wp2_with fail
              go_roundw
              case rel => exact ⟨trivial, i + 1, by go_num, by omega, unhide Y⟩
              case measure => simp [intOf] <;> omega
            · have N := hide (show gdA r = false from gdA_no hin (by cases e : gd r i with | false => rfl | true => have := (unhide G).1 e; omega))
              have d3 : (t != 0) = true := by simp [h3]
              go_wp2_with fail
              go_ret
              exact ⟨by rw [unhide N]; rfl, unhide K1⟩
      | false =>
        have G := hide (gd_out hb)
        rw [hb] at ci
        obtain ⟨m, em⟩ : ∃ m, r.M i = m := ⟨_, rfl⟩
        obtain ⟨t, et⟩ : ∃ t, r.J i = t := ⟨_, rfl⟩
        rw [em] at cm G
        rw [et] at cj G
        clear em et hb
        by_cases h1 : m = 0
        · subst h1
          by_cases h2 : t < 0
          · have N := hide (show gdA r = false from gdA_no hin (by cases e : gd r i with | false => rfl | true => have := (unhide G).1 e; omega))
            have d2 : decide (t < 0) = true := decide_eq_true h2
            go_wp2_with fail
            go_ret
            exact ⟨by rw [unhide N]; rfl, unhide K1⟩
          · have d2 : decide (t < 0) = false := decide_eq_false h2
            by_cases h3 : 3 ≤ t
            · have N := hide (show gdA r = false from gdA_no hin (by cases e : gd r i with | false => rfl | true => have := (unhide G).1 e; omega))
              have d3 : decide (3 ≤ t) = true := decide_eq_true h3
              go_wp2_with fail
              go_ret
              exact ⟨by rw [unhide N]; rfl, unhide K1⟩
            · have Y := hide (unhide NX ((unhide G).2 ⟨rfl, by omega, by omega⟩))
              have d3 : decide (3 ≤ t) = false := decide_eq_false h3
              go_wp2_with fail
              go_roundw
              case rel => exact ⟨trivial, i + 1, by go_num, by omega, unhide Y⟩
              case measure => simp [intOf] <;> omega
        · have N := hide (show gdA r = false from gdA_no hin (by cases e : gd r i with | false => rfl | true => have := (unhide G).1 e; omega))
          have d1 : (m != 0) = true := by simp [h1]
          go_wp2_with fail
          go_ret
          exact ⟨by rw [unhide N]; rfl, unhide K1⟩
    · have e9 : i = 4 := by omega
      subst e9
      rw [show ((4 : Nat) : Int) = 4 from rfl]
      go_wp2_with fail
      go_ret
      exact ⟨by rw [gdA_iff.2 (unhide HG)]; rfl, unhide K1⟩

end Go.Proofs.YthimcecbgpamdaaGreat

namespace Go.Proofs.YthimcecbgpamdaaGreat
open Go.RowKit

theorem enter_bgroll (w : World) : (callFunc 54 #[]).run Tryz.prog w = .ok (.enter 54 #[]) w := by go_simp
theorem enter_bgst (x : Value) (w : World) : (callFunc 55 #[x]).run Tryz.prog w = .ok (.enter 55 #[x]) w := by go_simp
/-- The axes behind so many. -/
def bgA (x k : Nat) : St := if k < x then St.beg0 else St.nil'
theorem bgA_zero : bgA 0 = zeroN.ax := by funext k; unfold bgA; rw [if_neg (by omega)]; rfl
theorem bgA_next {x : Nat} : (fun k => if k = x then St.beg0 else bgA x k) = bgA (x + 1) := by grind [bgA]
def bgN (id : Int) (t : Tn) (ax : Nat → St) : Nd := ⟨id, 0, t, ax, beginR, fun _ _ => 0, fun _ => 0, fun _ _ => 0, fun _ => 0, 0, 0, false, []⟩
theorem bgF_done {id : Int} {t : Tn} {v : Value} : ndF (bgN id t (bgA 3)) v = ndF (bgN id t (fun _ => St.beg0)) v := by unfold ndF bgN bgA; grind
/-- What Begin is held to. -/
def BnOK (fn : Nat) : Prop := ∀ (id : Int) (t : Tn) (w : World), R64 id → t.Ok →
  Calls Tryz.prog fn #[.int .i64 id, agV (ntnF t) 0 4] w fun e w' => ∃ a' c', e = .returned (.tuple #[ndV (begN id t) (.slice a' (begN id t).vA.length c'), .int .i64 (begE id)]) ∧ AgNew w.heap.size w' (begN id t) a' c' ∧ Below w.heap.size w w'
set_option maxHeartbeats 2000000 in
theorem refBeginNode_ok : BnOK 29 := by
  intro id t w _ _
  refine enterF Tryz.func29 rfl 28 rfl (of_decide_eq_true rfl) (fun A hs hd hb => ?_)
  have b0 : A.eval (.tmp 0) = .int .i64 id := hb 0 _ rfl
  have b1 : A.eval (.tmp 1) = agV (ntnF t) 0 4 := hb 1 _ rfl
  clear hb
  refine c_rs (m_start ?_)
  refine m_do rfl (wanted_rd rfl) (fun K hK => ?_)
  refine wp_boxG _ _ _ rfl (ev_out rfl b1) (of_decide_eq_true rfl) ?_
  intro w1 m1 k1 z1
  refine hK _ _ ?_
  clear hK K
  refine m_do rfl (wanted_rd rfl) (fun K hK => ?_)
  refine wp_allocG _ _ rfl zeroNd (of_decide_eq_true rfl) ?_
  intro w2 m2 k2 z2
  have mt2 := m1.below k2
  refine hK _ _ ?_
  clear hK K
  refine m_mv rfl (wanted_rd rfl) (run_assign _ rfl (ev_const _ _) _) ?_
  refine l_nx ?_
  refine c_nx ?_
  refine c_rs ?_
  by_cases h1 : id < 0
  · have e1 : begN id t = zeroN := by unfold begN noN; rw [decide_eq_true h1]; rfl
    have e2 : begE id = 3 := by unfold begE noN; rw [decide_eq_true h1]; rfl
    refine m_mv rfl (wanted_rd rfl) (run_move _ rfl (ev_out rfl b0) _) ?_
    refine m_mv rfl (wanted_rd rfl) (run_lssI (b := true) _ _ rfl (ev_in rfl (by omega)) (ev_const _ _) (decide_eq_true h1) _) ?_
    refine m_mv rfl (wanted_rd rfl) (run_move _ rfl (ev_in rfl (by omega)) _) ?_
    refine m_skip rfl (wanted_n (j := 2) rfl rfl rfl (ev_in rfl (by omega)) (by decide)) ?_
    refine m_skip rfl (wanted_n (j := 2) rfl rfl rfl (ev_in rfl (by omega)) (by decide)) ?_
    refine m_mv rfl (wanted_rd rfl) (run_pickT' _ _ _ rfl (ev_in rfl (by omega)) (ev_const _ _) _) ?_
    refine l_nx ?_
    refine c_true (ev_in rfl (by omega)) ?_
    refine c_rs ?_
    refine m_mv rfl (wanted_rd rfl) (run_bldN0 rfl _) ?_
    refine m_st (wanted_rd rfl) (fun K hK => ?_)
    refine wp_storeP _ _ _ _ rfl manyNd (ev_in rfl (by omega)) (ev_in rfl (by omega)) m2 (by decide) (ndF_one _ _ _ _) rfl ?_
    intro w3 mm3 k3 z3
    have mr3 := Vh.congr mm3 (stP_all _ _)
    have mt3 := mt2.kept k3 (by omega)
    refine hK _ ?_
    clear hK K
    refine m_mv rfl (wanted_rd rfl) (run_assign _ rfl (ev_const _ _) _) ?_
    refine l_nx ?_
    refine c_ret ?_
    simp only [Nx, Exit.then]
    rw [e1, e2]
    refine ret_of ((defL _ _).trans hd) (res_ct rfl (ev_in rfl (by omega)) (ev_in rfl (by omega)) manyNd mr3 (Nat.le_refl _)) ⟨none, 0, rfl, World.ownsRow_nil _ _ _ _, below_of_kept (k1.trans (k2.mono (by omega))) k3 (by omega) (by omega)⟩
  · by_cases h2 : 3 < id
    · have e1 : begN id t = zeroN := by unfold begN noN; rw [decide_eq_true h2, Bool.or_true]; rfl
      have e2 : begE id = 3 := by unfold begE noN; rw [decide_eq_true h2, Bool.or_true]; rfl
      refine m_mv rfl (wanted_rd rfl) (run_move _ rfl (ev_out rfl b0) _) ?_
      refine m_mv rfl (wanted_rd rfl) (run_lssI (b := false) _ _ rfl (ev_in rfl (by omega)) (ev_const _ _) (decide_eq_false h1) _) ?_
      refine m_mv rfl (wanted_rd rfl) (run_move _ rfl (ev_in rfl (by omega)) _) ?_
      refine m_mv rfl (wanted_g (j := 2) rfl rfl rfl (ev_in rfl (by omega))) (run_move _ rfl (ev_out rfl b0) _) ?_
      refine m_mv rfl (wanted_g (j := 2) rfl rfl rfl (ev_in rfl (by omega))) (run_gtrI (b := true) _ _ rfl (ev_in rfl (by omega)) (ev_const _ _) (decide_eq_true h2) _) ?_
      refine m_mv rfl (wanted_rd rfl) (run_pickF _ _ _ rfl (ev_in rfl (by omega)) (ev_in rfl (by omega)) _) ?_
      refine l_nx ?_
      refine c_true (ev_in rfl (by omega)) ?_
      refine c_rs ?_
      refine m_mv rfl (wanted_rd rfl) (run_bldN0 rfl _) ?_
      refine m_st (wanted_rd rfl) (fun K hK => ?_)
      refine wp_storeP _ _ _ _ rfl manyNd (ev_in rfl (by omega)) (ev_in rfl (by omega)) m2 (by decide) (ndF_one _ _ _ _) rfl ?_
      intro w3 mm3 k3 z3
      have mr3 := Vh.congr mm3 (stP_all _ _)
      have mt3 := mt2.kept k3 (by omega)
      refine hK _ ?_
      clear hK K
      refine m_mv rfl (wanted_rd rfl) (run_assign _ rfl (ev_const _ _) _) ?_
      refine l_nx ?_
      refine c_ret ?_
      simp only [Nx, Exit.then]
      rw [e1, e2]
      refine ret_of ((defL _ _).trans hd) (res_ct rfl (ev_in rfl (by omega)) (ev_in rfl (by omega)) manyNd mr3 (Nat.le_refl _)) ⟨none, 0, rfl, World.ownsRow_nil _ _ _ _, below_of_kept (k1.trans (k2.mono (by omega))) k3 (by omega) (by omega)⟩
    · have e1 : begN id t = bgN id t (fun _ => St.beg0) := by unfold begN noN; rw [decide_eq_false h1, decide_eq_false h2]; rfl
      have e2 : begE id = 0 := by unfold begE noN; rw [decide_eq_false h1, decide_eq_false h2]; rfl
      refine m_mv rfl (wanted_rd rfl) (run_move _ rfl (ev_out rfl b0) _) ?_
      refine m_mv rfl (wanted_rd rfl) (run_lssI (b := false) _ _ rfl (ev_in rfl (by omega)) (ev_const _ _) (decide_eq_false h1) _) ?_
      refine m_mv rfl (wanted_rd rfl) (run_move _ rfl (ev_in rfl (by omega)) _) ?_
      refine m_mv rfl (wanted_g (j := 2) rfl rfl rfl (ev_in rfl (by omega))) (run_move _ rfl (ev_out rfl b0) _) ?_
      refine m_mv rfl (wanted_g (j := 2) rfl rfl rfl (ev_in rfl (by omega))) (run_gtrI (b := false) _ _ rfl (ev_in rfl (by omega)) (ev_const _ _) (decide_eq_false h2) _) ?_
      refine m_mv rfl (wanted_rd rfl) (run_pickF _ _ _ rfl (ev_in rfl (by omega)) (ev_in rfl (by omega)) _) ?_
      refine l_nx ?_
      refine c_false (ev_in rfl (by omega)) (c_fin ?_)
      refine c_nx ?_
      have hS0 : (fun W => Vh 23 W w.heap.size 4 4 (ntnF t)) w2.drew := mt2
      have mr0 : Vh _ w2.drew _ _ _ _ := m2
      have ez : w2.drew.heap.size = w2.heap.size := rfl
      have kA : Below w.heap.size w w2.drew := below_drew (k1.trans (k2.mono (by omega)))
      refine c_rj (S := fun W => Vh 23 W w.heap.size 4 4 (ntnF t)) (.mv 0 (.rd 1 (.two 2 4 (.mv 3 (.go 4 (.go 5 .fin))) (.go 2 (.mv 3 (.go 5 .fin)))))) [] (by kernel_rfl) (by kernel_rfl) ?_
      refine j_mv rfl rfl (fun _ _ _ h => h) (wanted_rd rfl) (fun _ => run_move _ rfl (ev_out rfl b0) _) ?_
      refine j_rd rfl rfl (fun _ _ _ h => h) (wanted_rd rfl) hS0 (fun _ hS => run_loadPe _ _ rfl manyTn (ev_in rfl (by omega)) hS (by omega) (fun j _ => by rw [Nat.zero_add])) ?_
      refine j_two ?_ ?_
      · refine j_do rfl rfl (wanted_rd rfl) (fun K hK => ?_)
        refine wp_call0 _ 54 _ rfl (enter_bgroll _) (refBegin_ok _) ?_
        rintro e w3 ⟨rfl, k3⟩
        have n3 := k3.size
        have mt3 := hS0.below k3
        have mr3 := mr0.below k3
        refine ⟨_, rfl, ?_⟩
        refine hK _ _ (fun _ _ => mt3) ?_
        clear hK K
        refine j_mv rfl rfl (fun _ _ _ h => h) (wanted_rd rfl) (fun _ => run_bldN _ _ _ rfl (id := id) (t := t) (r := beginR) (ev_in rfl (by omega)) (ev_in rfl (by omega)) (ev_in rfl (by omega)) _) ?_
        refine j_do rfl rfl (wanted_rd rfl) (fun K hK => ?_)
        refine wp_allocG _ _ rfl zeroNd (of_decide_eq_true rfl) ?_
        intro w4 m4 k4 z4
        have mt4 := mt3.below k4
        have mr4 := mr3.below k4
        refine hK _ _ (fun _ _ => mt4) ?_
        clear hK K
        refine j_st rfl (wanted_rd rfl) (fun K hK => ?_)
        refine wp_storeP _ _ _ _ rfl manyNd (ev_in rfl (by omega)) (ev_in rfl (by omega)) m4 (by decide) (ndF_one _ _ _ _) rfl ?_
        intro w5 mm5 k5 z5
        have mp5 := Vh.congr mm5 (stP_all _ _)
        have mt5 := mt4.kept k5 (by omega)
        have mr5 := mr4.kept k5 (by omega)
        refine hK _ (fun _ _ => mt5) ?_
        clear hK K
        refine j_nx ?_
        refine c_nx ?_
        refine c_rs ?_
        refine m_mv rfl (wanted_rd rfl) (run_assign _ rfl (ev_const _ _) _) ?_
        refine l_nx ?_
        refine c_block ?_
        refine c_loop (fun r a W => ∃ x : Nat, x ≤ 3 ∧ 3 - x ≤ r ∧ a.tmps.size = 28 ∧ a.defers = [] ∧ a.eval (.tmp 4) = .pointer (some ⟨w1.heap.size, 0, none⟩) ∧ a.eval (.tmp 6) = .pointer (some ⟨w3.heap.size, 0, none⟩) ∧ a.eval (.tmp 7) = .int .i64 (x : Int) ∧ Vh 37 W w1.heap.size 74 74 (ndF zeroN (.slice none 0 0)) ∧ Vh 37 W (w3.heap.size) 74 74 (ndF (bgN id t (bgA x)) (.slice none 0 0)) ∧ Below w.heap.size w W ∧ w5.heap.size ≤ W.heap.size) 3 ⟨0, by omega, by omega, (szL _ _).trans hs, (defL _ _).trans hd, (ev_in rfl (by omega)), (ev_in rfl (by omega)), (ev_in rfl (by omega)), mr5, by rw [bgA_zero]; exact mp5, below_of_kept ((kA.trans (k3.mono (by omega))).trans (k4.mono (by omega))) k5 (by omega) (by omega), by omega⟩ (fun r B W hI => ?_)
        clear b0 b1 hs hd
        obtain ⟨x, hx, hr2, hs, hd, b4, b6, b7, mr, mp, kB, hW⟩ := hI
        by_cases hin : x < 3
        · refine c_nx ?_
          refine c_rs (m_start ?_)
          refine m_mv rfl (wanted_rd rfl) (run_move _ rfl (ev_out rfl b7) _) ?_
          refine m_mv rfl (wanted_rd rfl) (run_lssI (b := true) _ _ rfl (ev_in rfl (by omega)) (ev_const _ _) (decide_eq_true (by omega)) _) ?_
          refine l_nx ?_
          refine c_true (ev_in rfl (by omega)) (c_fin ?_)
          refine c_nx (c_block ?_)
          refine c_region ?_
          refine m_mv rfl (wanted_rd rfl) (run_move _ rfl (ev_out rfl b7) _) ?_
          refine m_do rfl (wanted_rd rfl) (fun K hK => ?_)
          refine wp_call1 _ 55 _ _ rfl (ev_const _ _) (enter_bgst _ _) (refBegS_any _) ?_
          rintro e w11 ⟨rfl, k11⟩
          have n11 := k11.size
          have mr11 := mr.below k11
          have mp11 := mp.below k11
          refine ⟨_, rfl, ?_⟩
          refine hK _ _ ?_
          clear hK K
          refine m_mv rfl (wanted_rd rfl) (fldNd3 rfl (ev_out rfl b6) _) ?_
          refine m_mv rfl (wanted_rd rfl) (run_ixG _ _ _ _ rfl Tryz.underlying26 manySt.size (ev_in rfl (by omega)) (ev_in rfl (by omega)) rfl hin _) ?_
          refine m_st (wanted_rd rfl) (fun K hK => ?_)
          refine wp_storeP _ _ _ _ rfl manySt (ev_in rfl (by omega)) (ev_in rfl (by omega)) mp11 (by omega) (nstF_one _) rfl ?_
          intro w12 mm12 k12 z12
          have mp12 : Vh 37 w12 (w3.heap.size) 74 74 (ndF (bgN id t (bgA (x + 1))) (.slice none 0 0)) := by rw [← bgA_next]; exact Vh.congr mm12 (upd_axAt _ _ _ x hin)
          have mr12 := mr11.kept k12 (by omega)
          refine hK _ ?_
          clear hK K
          refine l_finB ?_
          refine c_region ?_
          refine m_mv rfl (wanted_rd rfl) (run_move _ rfl (ev_out rfl b7) _) ?_
          refine m_mv rfl (wanted_rd rfl) (run_addI _ _ rfl (ev_in rfl (by omega)) (ev_const _ _) (by omega) (by omega) _) ?_
          refine m_mv rfl (wanted_rd rfl) (run_assign _ rfl (ev_in rfl (by omega)) _) ?_
          exact l_round ⟨3 - (x + 1), by omega, x + 1, by omega, by omega, (szL _ _).trans hs, (defL _ _).trans hd, (ev_out rfl b4), (ev_out rfl b6), (ev_in rfl (by omega)).trans (by rw [Int.natCast_add]; rfl), mr12, mp12, below_of_kept (kB.trans (k11.mono (by omega))) k12 (by omega) (by omega), by omega⟩
        · refine c_nx ?_
          refine c_rs (m_start ?_)
          refine m_mv rfl (wanted_rd rfl) (run_move _ rfl (ev_out rfl b7) _) ?_
          refine m_mv rfl (wanted_rd rfl) (run_lssI (b := false) _ _ rfl (ev_in rfl (by omega)) (ev_const _ _) (decide_eq_false (by omega)) _) ?_
          obtain rfl : x = 3 := by omega
          rw [bgF_done] at mp
          refine l_nx ?_
          refine c_false (ev_in rfl (by omega)) (c_exit (x_out ?_))
          refine c_rs ?_
          refine m_mv rfl (wanted_rd rfl) (run_loadP _ _ rfl manyNd (ev_out rfl b6) mp (by decide)) ?_
          refine m_st (wanted_rd rfl) (fun K hK => ?_)
          refine wp_storeP _ _ _ _ rfl manyNd (ev_out rfl b4) (ev_in rfl (by omega)) mr (by decide) (ndF_one _ _ _ _) rfl ?_
          intro w11 mm11 k11 z11
          have mr11 := Vh.congr mm11 (stP_all _ _)
          have mp11 := mp.kept k11 (by omega)
          refine hK _ ?_
          clear hK K
          refine m_mv rfl (wanted_rd rfl) (run_assign _ rfl (ev_const _ _) _) ?_
          refine l_nx ?_
          refine c_ret ?_
          rw [e1, e2]
          refine ret_of ((defL _ _).trans hd) (res_ct rfl (ev_out rfl b4) (ev_in rfl (by omega)) manyNd mr11 (Nat.le_refl _)) ⟨none, 0, rfl, World.ownsRow_nil _ _ _ _, below_of_kept kB k11 (by omega) (by omega)⟩
      · refine j_do rfl rfl (wanted_rd rfl) (fun K hK => ?_)
        refine wp_allocG _ _ rfl zeroNd (of_decide_eq_true rfl) ?_
        intro w3 m3 k3 z3
        have mt3 := hS0.below k3
        have mr3 := mr0.below k3
        refine hK _ _ (fun _ _ => mt3) ?_
        clear hK K
        refine j_do rfl rfl (wanted_rd rfl) (fun K hK => ?_)
        refine wp_call0 _ 54 _ rfl (enter_bgroll _) (refBegin_ok _) ?_
        rintro e w4 ⟨rfl, k4⟩
        have n4 := k4.size
        have mt4 := mt3.below k4
        have mr4 := mr3.below k4
        have mp4 := m3.below k4
        refine ⟨_, rfl, ?_⟩
        refine hK _ _ (fun _ _ => mt4) ?_
        clear hK K
        refine j_mv rfl rfl (fun _ _ _ h => h) (wanted_rd rfl) (fun _ => run_bldN _ _ _ rfl (id := id) (t := t) (r := beginR) (ev_in rfl (by omega)) (ev_in rfl (by omega)) (ev_in rfl (by omega)) _) ?_
        refine j_st rfl (wanted_rd rfl) (fun K hK => ?_)
        refine wp_storeP _ _ _ _ rfl manyNd (ev_in rfl (by omega)) (ev_in rfl (by omega)) mp4 (by decide) (ndF_one _ _ _ _) rfl ?_
        intro w5 mm5 k5 z5
        have mp5 := Vh.congr mm5 (stP_all _ _)
        have mt5 := mt4.kept k5 (by omega)
        have mr5 := mr4.kept k5 (by omega)
        refine hK _ (fun _ _ => mt5) ?_
        clear hK K
        refine j_nx ?_
        refine c_nx ?_
        refine c_rs ?_
        refine m_mv rfl (wanted_rd rfl) (run_assign _ rfl (ev_const _ _) _) ?_
        refine l_nx ?_
        refine c_block ?_
        refine c_loop (fun r a W => ∃ x : Nat, x ≤ 3 ∧ 3 - x ≤ r ∧ a.tmps.size = 28 ∧ a.defers = [] ∧ a.eval (.tmp 4) = .pointer (some ⟨w1.heap.size, 0, none⟩) ∧ a.eval (.tmp 6) = .pointer (some ⟨w2.drew.heap.size, 0, none⟩) ∧ a.eval (.tmp 7) = .int .i64 (x : Int) ∧ Vh 37 W w1.heap.size 74 74 (ndF zeroN (.slice none 0 0)) ∧ Vh 37 W (w2.drew.heap.size) 74 74 (ndF (bgN id t (bgA x)) (.slice none 0 0)) ∧ Below w.heap.size w W ∧ w5.heap.size ≤ W.heap.size) 3 ⟨0, by omega, by omega, (szL _ _).trans hs, (defL _ _).trans hd, (ev_in rfl (by omega)), (ev_in rfl (by omega)), (ev_in rfl (by omega)), mr5, by rw [bgA_zero]; exact mp5, below_of_kept ((kA.trans (k3.mono (by omega))).trans (k4.mono (by omega))) k5 (by omega) (by omega), by omega⟩ (fun r B W hI => ?_)
        clear b0 b1 hs hd
        obtain ⟨x, hx, hr2, hs, hd, b4, b6, b7, mr, mp, kB, hW⟩ := hI
        by_cases hin : x < 3
        · refine c_nx ?_
          refine c_rs (m_start ?_)
          refine m_mv rfl (wanted_rd rfl) (run_move _ rfl (ev_out rfl b7) _) ?_
          refine m_mv rfl (wanted_rd rfl) (run_lssI (b := true) _ _ rfl (ev_in rfl (by omega)) (ev_const _ _) (decide_eq_true (by omega)) _) ?_
          refine l_nx ?_
          refine c_true (ev_in rfl (by omega)) (c_fin ?_)
          refine c_nx (c_block ?_)
          refine c_region ?_
          refine m_mv rfl (wanted_rd rfl) (run_move _ rfl (ev_out rfl b7) _) ?_
          refine m_do rfl (wanted_rd rfl) (fun K hK => ?_)
          refine wp_call1 _ 55 _ _ rfl (ev_const _ _) (enter_bgst _ _) (refBegS_any _) ?_
          rintro e w11 ⟨rfl, k11⟩
          have n11 := k11.size
          have mr11 := mr.below k11
          have mp11 := mp.below k11
          refine ⟨_, rfl, ?_⟩
          refine hK _ _ ?_
          clear hK K
          refine m_mv rfl (wanted_rd rfl) (fldNd3 rfl (ev_out rfl b6) _) ?_
          refine m_mv rfl (wanted_rd rfl) (run_ixG _ _ _ _ rfl Tryz.underlying26 manySt.size (ev_in rfl (by omega)) (ev_in rfl (by omega)) rfl hin _) ?_
          refine m_st (wanted_rd rfl) (fun K hK => ?_)
          refine wp_storeP _ _ _ _ rfl manySt (ev_in rfl (by omega)) (ev_in rfl (by omega)) mp11 (by omega) (nstF_one _) rfl ?_
          intro w12 mm12 k12 z12
          have mp12 : Vh 37 w12 (w2.drew.heap.size) 74 74 (ndF (bgN id t (bgA (x + 1))) (.slice none 0 0)) := by rw [← bgA_next]; exact Vh.congr mm12 (upd_axAt _ _ _ x hin)
          have mr12 := mr11.kept k12 (by omega)
          refine hK _ ?_
          clear hK K
          refine l_finB ?_
          refine c_region ?_
          refine m_mv rfl (wanted_rd rfl) (run_move _ rfl (ev_out rfl b7) _) ?_
          refine m_mv rfl (wanted_rd rfl) (run_addI _ _ rfl (ev_in rfl (by omega)) (ev_const _ _) (by omega) (by omega) _) ?_
          refine m_mv rfl (wanted_rd rfl) (run_assign _ rfl (ev_in rfl (by omega)) _) ?_
          exact l_round ⟨3 - (x + 1), by omega, x + 1, by omega, by omega, (szL _ _).trans hs, (defL _ _).trans hd, (ev_out rfl b4), (ev_out rfl b6), (ev_in rfl (by omega)).trans (by rw [Int.natCast_add]; rfl), mr12, mp12, below_of_kept (kB.trans (k11.mono (by omega))) k12 (by omega) (by omega), by omega⟩
        · refine c_nx ?_
          refine c_rs (m_start ?_)
          refine m_mv rfl (wanted_rd rfl) (run_move _ rfl (ev_out rfl b7) _) ?_
          refine m_mv rfl (wanted_rd rfl) (run_lssI (b := false) _ _ rfl (ev_in rfl (by omega)) (ev_const _ _) (decide_eq_false (by omega)) _) ?_
          obtain rfl : x = 3 := by omega
          rw [bgF_done] at mp
          refine l_nx ?_
          refine c_false (ev_in rfl (by omega)) (c_exit (x_out ?_))
          refine c_rs ?_
          refine m_mv rfl (wanted_rd rfl) (run_loadP _ _ rfl manyNd (ev_out rfl b6) mp (by decide)) ?_
          refine m_st (wanted_rd rfl) (fun K hK => ?_)
          refine wp_storeP _ _ _ _ rfl manyNd (ev_out rfl b4) (ev_in rfl (by omega)) mr (by decide) (ndF_one _ _ _ _) rfl ?_
          intro w11 mm11 k11 z11
          have mr11 := Vh.congr mm11 (stP_all _ _)
          have mp11 := mp.kept k11 (by omega)
          refine hK _ ?_
          clear hK K
          refine m_mv rfl (wanted_rd rfl) (run_assign _ rfl (ev_const _ _) _) ?_
          refine l_nx ?_
          refine c_ret ?_
          rw [e1, e2]
          refine ret_of ((defL _ _).trans hd) (res_ct rfl (ev_out rfl b4) (ev_in rfl (by omega)) manyNd mr11 (Nat.le_refl _)) ⟨none, 0, rfl, World.ownsRow_nil _ _ _ _, below_of_kept kB k11 (by omega) (by omega)⟩

end Go.Proofs.YthimcecbgpamdaaGreat

namespace Go.Proofs.YthimcecbgpamdaaGreat
open Go

theorem wp_call5 (w : World) {P : Program} {Q : Exit → Act → World → Prop} {o : Oper} {a : Act} {K : Act → World → Prop} (n : Nat) (x y z u v : Operand) (T : Array TypeId) (ho : o.op = .call { callee := .value (.func n), args := #[x, y, z, u, v], argTypes := T }) {p q r s t : Value} (hx : a.eval x = p) (hy : a.eval y = q) (hz : a.eval z = r) (hu : a.eval u = s) (hv : a.eval v = t) (hf : (callFunc n #[p, q, r, s, t]).run P w = .ok (.enter n #[p, q, r, s, t]) w) {R : Ending → World → Prop} (hc : Calls P n #[p, q, r, s, t] w R)
    (h : ∀ e w', R e w' → ∃ r, e = .returned r ∧ K (a.put o.dst r) w') : WpI P o a w K Q := by
  refine ⟨?_⟩
  have e : (execOp a.eval o).run P w = .ok (.enter n #[p, q, r, s, t]) w := by
    unfold execOp
    rw [ho]
    have hv2 : a.eval (Operand.func n) = .func (.func n) #[] #[] := rfl
    simp only [resolve, invoke, Sem.run_bind, List.map_toArray, List.map_cons, List.map_nil, hx, hy, hz, hu, hv, hv2]
    go_simp
  unfold Oper.wp
  rw [e, Oper.upon_enter]
  refine hc.mono ?_
  intro e w' hr
  obtain ⟨r, rfl, hk⟩ := h e w' hr
  exact hk


end Go.Proofs.YthimcecbgpamdaaGreat
