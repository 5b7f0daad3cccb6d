/- Joined: RefCl3, ClTop, ClMore, ClBack, ClTp2, ClRunP, RefCl4, ClNeq, ClTp4, ClTp5, ClRun, TopHd, TopInW, ClTp3, ClTwn, TopPl, TopRp, SumBytes, RefCl5, LawsXRuns. -/
import Derived.Test.YthimcecbgpamdaaGreatNear154
import Derived.Test.YthimcecbgpamdaaGreatNear110
import Derived.Test.YthimcecbgpamdaaGreatNear157
import Derived.Test.YthimcecbgpamdaaGreatNear156
import Derived.Test.YthimcecbgpamdaaGreatNear137
import Derived.Test.YthimcecbgpamdaaGreatNear148
import Derived.Test.YthimcecbgpamdaaGreatNear167
import Derived.Lib.SmallJoins
namespace Go.Proofs.YthimcecbgpamdaaGreat
open Go.RowKit

theorem run_lodR {P : Program} {f : Operand → Value} {o : Oper} {ty : TypeId} {x : Operand} (T : OneC P ty) {b off : Nat} {v : Value} {w : World} (hc : w.cell? ⟨b, off, none⟩ = some v) (ho : o.op = .load ty x) (hx : f x = .pointer (some ⟨b, off, none⟩)) : (execOp f o).run P w = .ok (.value v) w := by
  unfold execOp
  simp only [ho, hx, Instr.loadAt, Instr.sureAddr, loadVar, Sem.run_bind, Sem.run_pure, Result.andThen_ok, T.agg]
  go_simp
theorem c_midR {P : Program} {Q : Exit → Act → World → Prop} {a : Act} {w : World} {x y : Code} (T : Act → World → Prop) (hx : (∀ A W, T A W → CodI P y Q A W) → CodI P (.seq x y) Q a w) (hy : ∀ A W, T A W → CodI P y Q A W) : CodI P (.seq x y) Q a w := hx hy
/-- A computer's list that may be the caller's; four of them. -/
def oldJ (w0 : World) (d : Nd × Ad) : It := ⟨fun _ => AgRd w0 d.1 d.2.1 d.2.2, fun _ => False, fun h _ => h, fun _ h => h.elim⟩
def gnJ (w0 : World) (e : (Nd × Ad) × Bool) : It := if e.2 = true then agJ w0.heap.size e.1 else oldJ w0 e.1
def gnI (w0 : World) (E : Nat → (Nd × Ad) × Bool) : It := fourI (fun i => gnJ w0 (E i))
theorem gn_rd {w0 w : World} {E : Nat → (Nd × Ad) × Bool} {i : Nat} (h : (gnI w0 E).p w) (k : Below w0.heap.size w0 w) (hi : i < 4) : AgRd w (E i).1.1 (E i).1.2.1 (E i).1.2.2 := by
  have h1 : (gnJ w0 (E i)).p w := h i hi
  unfold gnJ at h1
  split at h1
  · have h2 : World.ownsRow _ _ _ _ _ _ _ := h1
    obtain ⟨a, c, e, s, _⟩ := owns_sr h2
    unfold slV at e
    cases e
    exact s
  · exact Sr.below h1 k
/-- A message behind a pointer, or none. -/
def noT : It := ⟨fun _ => True, fun _ => False, fun _ _ => trivial, fun _ h => h.elim⟩
def mpJ (B : Nat) (t : (Ms × Ad) × Option Nat) : It := match t.2 with
  | some b => (vhI 67 b 4 4 (msF t.1.1.K t.1.1.F t.1.1.R (slV t.1.2 t.1.1.L.length))).and (tlJ B t.1)
  | none => noT
def mpI (B : Nat) (T : Nat → (Ms × Ad) × Option Nat) : It := fourI (fun i => mpJ B (T i))
def ptrF (T : Nat → (Ms × Ad) × Option Nat) (j : Nat) : Value := .pointer ((T j).2.map fun b => ⟨b, 0, none⟩)
def noM : Nat → (Ms × Ad) × Option Nat := fun _ => ((zeroM, (none, 0)), none)
theorem ptrF_put (T : Nat → (Ms × Ad) × Option Nat) (i : Nat) (m : Ms × Ad) (b : Nat) : ∀ j, j < 4 → stW (ptrF T) i (.pointer (some ⟨b, 0, none⟩)) j = ptrF (upM T i (m, some b)) j := fun j _ => by
  unfold stW ptrF upM
  split <;> rfl
theorem ptrF_one (T : Nat → (Ms × Ad) × Option Nat) : ∀ j, j < 4 → (ptrF T j).oneCell' = true := fun _ _ => rfl
instance iRefCl3_1 : ZerK Tryz.prog 81 4 (ptrF noM) := ⟨fun w => by kernel_rfl⟩
theorem mp_none (B : Nat) (w : World) : (mpI B noM).p w := fun _ _ => trivial
theorem mp_at {w : World} {B : Nat} {T : Nat → (Ms × Ad) × Option Nat} {j b : Nat} (h : (mpI B T).p w) (hj : j < 4) (e : (T j).2 = some b) : Vh 67 w b 4 4 (msF (T j).1.1.K (T j).1.1.F (T j).1.1.R (slV (T j).1.2 (T j).1.1.L.length)) ∧ (T j).1.1.L.length ≤ (T j).1.2.2 ∧ Sr w (T j).1.2.1 (T j).1.1.L.length (T j).1.2.2 (iF (gL (T j).1.1.L)) := by
  have h1 : (mpJ B (T j)).p w := h j hj
  unfold mpJ at h1
  rw [e] at h1
  have h2 : World.ownsRow _ _ _ _ _ _ _ := h1.2
  obtain ⟨a, c, ec, s, hc⟩ := owns_sr h2
  unfold slV at ec
  cases ec
  exact ⟨h1.1, hc, s⟩
theorem clG_at (fr : Int) (D : Nat → Nd × Ad) {i j : Nat} (hj : j < 74) : clG fr D (0 + 1 + i * 74 + j) = ndF (D i).1 (slV (D i).2 (D i).1.vA.length) j := by
  unfold clG
  rw [Nat.zero_add]
  exact clF_nd _ _ _ hj

theorem bxM_cong2 {x : Ip} {t u : Nat → Ms} {wo ph : Nat} : ∀ {k : Nat}, (∀ j : Nat, j < k → (j : Int) ≠ x.bad → t j = u j) → bxM x t wo ph k = bxM x u wo ph k
  | 0, _ => rfl
  | k + 1, h => by
    show bxM x t wo ph k ++ _ = bxM x u wo ph k ++ _
    rw [bxM_cong2 (fun j hj hb => h j (by omega) hb)]
    by_cases hb : (k : Int) = x.bad
    · rw [if_pos hb, if_pos hb]
    · rw [h k (by omega) hb]
theorem clE_set (fr : Int) (E : Nat → (Nd × Ad) × Bool) (i : Nat) (d : Nd × Ad) : ∀ j, j < 297 → stP (clG fr (fun i => (E i).1)) (0 + 1 + i * 74) 74 (ndF d.1 (slV d.2 d.1.vA.length)) j = clG fr (fun j => (upM E i (d, true) j).1) j := by
  rw [upM_ap (fun e : (Nd × Ad) × Bool => e.1), Nat.zero_add]
  exact clG_set fr _ i d
theorem c_midS {P : Program} {Q : Exit → Act → World → Prop} {a : Act} {w : World} {x y : Code} (T : Act → World → Prop) (hx : (∀ A W, T A W → CodI P y Q A W) → CodI P x (Nx P y Q) a w) (hy : ∀ A W, T A W → CodI P y Q A W) : CodI P (.seq x y) Q a w := c_nx (hx hy)
abbrev rfA (A : Act) (w w1 w2 W w6 : World) (k : Nat) : Prop := A.tmps.size = 193 ∧ A.defers = [] ∧ A.eval (.tmp 2) = .pointer (some ⟨w.heap.size, 0, none⟩) ∧ A.eval (.tmp 3) = .pointer (some ⟨w1.heap.size, 0, none⟩) ∧ A.eval (.tmp 4) = .pointer (some ⟨w2.heap.size, 0, none⟩) ∧ A.eval (.tmp 8) = .pointer (some ⟨W.heap.size, 0, none⟩) ∧ A.eval (.tmp 9) = .pointer (some ⟨w6.heap.size, 0, none⟩) ∧ A.eval (.tmp 10) = .int .i64 (k : Int)
abbrev rfL (w w1 w2 : World) (x : Ip) (lo : Option Addr) (lc : Nat) (LL : List Lj) (fr : Int) (D : Nat → Nd × Ad) : List It := [vhI 40 w2.heap.size 297 297 (clF 0 (fun _ => zeroN) (fun _ => slV (none, 0) 0)), vhI 43 w1.heap.size 14 14 (ipF x.rd x.bad (.slice lo LL.length lc)), vhI 40 w.heap.size 297 297 (clG fr D)]
def PhK (k : Nat) (fr : Int) (rd : Nat → Int) (fn : Nat) : Prop := ∃ N M, PhOK N M fn ∧ (∀ n l, phN k n fr rd l = N n l) ∧ ∀ n l, phM k n fr rd l = M n l
set_option maxRecDepth 10000 in
set_option maxHeartbeats 4000000 in
theorem refFrame_ok : FrOK 8 := by
  intro x fr D lo lc LL w hx hip hcl hag hj
  have hxl : x.ly.length = LL.length := by rw [hx, List.length_map]
  obtain ⟨c, ec⟩ : ∃ c, c = (⟨fr, fun i => (D i).1⟩ : Cl) := ⟨_, rfl⟩
  have ecf : c.fr = fr := by rw [ec]
  have ecn : ∀ i, c.nd i = (D i).1 := fun i => by rw [ec]
  rw [← ec] at hcl ⊢
  have hno : ∀ (E : Int) (W : World) (l : List It), frE x c = E → E ≠ 0 → Cx w W l → ∃ (D' : Nat → Nd × Ad) (v : Value), Ending.returned (.tuple #[agV (clF 0 (fun _ => zeroN) (fun _ => slV (none, 0) 0)) 0 297, .slice none 0 0, .int .i64 E]) = .returned (.tuple #[agV (clG (frC x c).fr D') 0 297, v, .int .i64 (frE x c)]) ∧ (∀ i, i < 4 → (D' i).1 = (frC x c).nd i) ∧ Cx w W [ownI w.heap.size 86 14 v (frR x c).length (rwS rpF 14 (frR x c)), agI w.heap.size D'] := fun E W l he h0 H => by
    have e1 : frC x c = zeroC := by unfold frC; rw [if_neg (by rw [he]; exact h0)]
    have e2 : frR x c = [] := by unfold frR; rw [if_neg (by rw [he]; exact h0)]
    refine ⟨fun _ => (zeroN, (none, 0)), .slice none 0 0, by rw [e1, he]; rfl, fun i hi => by rw [e1]; rfl, ?_⟩
    rw [e2]
    exact (((H.sub (List.nil_sublist _)).add (Below.refl _ _) (agI w.heap.size (fun _ => (zeroN, (none, 0)))) (fun _ _ => World.ownsRow_nil _ _ _ _) (fun j ⟨_, _, e⟩ => absurd e (fun e => nomatch e))).add (Below.refl _ _) (ownI _ _ _ _ _ _) (World.ownsRow_nil _ _ _ _) (fun j e => nomatch e))
  refine enterF Tryz.func8 rfl 193 rfl (of_decide_eq_true rfl) (fun A hs hd hb => ?_)
  have b0 : A.eval (.tmp 0) = agV (clG fr D) 0 297 := hb 0 _ rfl
  have b1 : A.eval (.tmp 1) = agV (ipF x.rd x.bad (.slice lo LL.length lc)) 0 14 := hb 1 _ rfl
  clear hb
  have H := Cx.start w
  refine c_rs (m_start ?_)
  refine q_box H ?_
  clear H
  intro w1 H z1
  refine q_box H ?_
  clear H
  intro w2 H z2
  refine q_al H ?_
  clear H
  intro w3 H z3
  iterate 2 refine qa ?_
  refine l_nx ?_
  refine c_nx ?_
  refine c_midR (fun A W => A.tmps.size = 193 ∧ A.defers = [] ∧ A.eval (.tmp 2) = .pointer (some ⟨w.heap.size, 0, none⟩) ∧ A.eval (.tmp 3) = .pointer (some ⟨w1.heap.size, 0, none⟩) ∧ A.eval (.tmp 4) = .pointer (some ⟨w2.heap.size, 0, none⟩) ∧ A.eval (.tmp 35) = .bool (decide (x.bad < -1 ∨ 4 ≤ x.bad ∨ fr < 0 ∨ 1073741823 < fr)) ∧ Cx w W (rfL w w1 w2 x lo lc LL fr D)) (fun hT => ?_) (fun A W hT => ?_)
  · refine c_rs ?_
    iterate 2 refine qa ?_
    by_cases g1 : x.bad < -1
    · refine qg (run_lssI (b := true) _ _ rfl Qv Qv (decide_eq_true g1) _) ?_
      refine qa ?_
      iterate 3 refine q_skip ?_
      refine qg (run_pickT' _ _ _ rfl Qv Qv _) ?_
      refine qa ?_
      iterate 3 refine q_skip ?_
      refine qg (run_pickT' _ _ _ rfl Qv Qv _) ?_
      refine qa ?_
      iterate 3 refine q_skip ?_
      refine qg (run_pickT' _ _ _ rfl Qv Qv _) ?_
      refine l_nx ?_
      exact hT _ _ ⟨(szL _ _).trans hs, (defL _ _).trans hd, Qv, Qv, Qv, Eq.trans Qv (by rw [decide_eq_true (Or.inl g1)]), H⟩
    refine qg (run_lssI (b := false) _ _ rfl Qv Qv (decide_eq_false g1) _) ?_
    iterate 3 refine qa ?_
    by_cases g2 : 3 < x.bad
    · refine qg (run_gtrI (b := true) _ _ rfl Qv Qv (decide_eq_true g2) _) ?_
      refine qg (run_pickF _ _ _ rfl Qv Qv _) ?_
      refine qa ?_
      iterate 3 refine q_skip ?_
      refine qg (run_pickT' _ _ _ rfl Qv Qv _) ?_
      refine qa ?_
      iterate 3 refine q_skip ?_
      refine qg (run_pickT' _ _ _ rfl Qv Qv _) ?_
      refine l_nx ?_
      exact hT _ _ ⟨(szL _ _).trans hs, (defL _ _).trans hd, Qv, Qv, Qv, Eq.trans Qv (by rw [decide_eq_true (show x.bad < -1 ∨ 4 ≤ x.bad ∨ fr < 0 ∨ 1073741823 < fr by omega)]), H⟩
    refine qg (run_gtrI (b := false) _ _ rfl Qv Qv (decide_eq_false g2) _) ?_
    refine qg (run_pickF _ _ _ rfl Qv Qv _) ?_
    iterate 2 refine qa ?_
    refine qg (run_lod1 (v := .int .i64 fr) _ _ rfl OneK.out Qv H.v2 (by omega) rfl) ?_
    by_cases g3 : fr < 0
    · refine qg (run_lssI (b := true) _ _ rfl Qv Qv (decide_eq_true g3) _) ?_
      refine qg (run_pickF _ _ _ rfl Qv Qv _) ?_
      refine qa ?_
      iterate 3 refine q_skip ?_
      refine qg (run_pickT' _ _ _ rfl Qv Qv _) ?_
      refine l_nx ?_
      exact hT _ _ ⟨(szL _ _).trans hs, (defL _ _).trans hd, Qv, Qv, Qv, Eq.trans Qv (by rw [decide_eq_true (show x.bad < -1 ∨ 4 ≤ x.bad ∨ fr < 0 ∨ 1073741823 < fr by omega)]), H⟩
    refine qg (run_lssI (b := false) _ _ rfl Qv Qv (decide_eq_false g3) _) ?_
    refine qg (run_pickF _ _ _ rfl Qv Qv _) ?_
    iterate 2 refine qa ?_
    refine qg (run_lod1 (v := .int .i64 fr) _ _ rfl OneK.out Qv H.v2 (by omega) rfl) ?_
    refine qa ?_
    refine qg (run_pickF _ _ _ rfl Qv Qv _) ?_
    refine l_nx ?_
    exact hT _ _ ⟨(szL _ _).trans hs, (defL _ _).trans hd, Qv, Qv, Qv, Eq.trans Qv (congrArg Value.bool (decide_eq_decide.2 (by omega))), H⟩
  clear b0 b1 hs hd H
  obtain ⟨hs, hd, b2, b3, b4, b35, H⟩ := hT
  refine c_cond b35 (fun h => ?_) (fun h => ?_)
  · have hE : frE x c = 3 := by unfold frE; rw [if_pos (by rw [ecf]; exact of_decide_eq_true h)]
    refine c_rs (m_start ?_)
    refine qg (run_bldC0 rfl _) ?_
    refine q_sp H.a0 stP_whole (clF_one _ _ _ _) ?_
    clear H
    intro w4 H z4
    iterate 2 refine qa ?_
    refine l_nx ?_
    exact c_ret (r_nx (ret_of ((defL _ _).trans hd) (res_ctt rfl Qv Qv Qv ManyK.out H.v0 (Nat.le_refl _)) (hno 3 _ _ hE (by omega) H)))
  have g0 := of_decide_eq_false h
  refine c_fin ?_
  refine c_nx ?_
  refine c_rs (m_start ?_)
  iterate 3 refine qa ?_
  refine qa ?_
  refine l_nx ?_
  refine q_if (fun h => ?_) (fun h => ?_)
  · have hE : frE x c = 6 := by
      have := of_decide_eq_true h
      unfold frE
      rw [if_neg (by rw [ecf]; exact g0), if_pos (by omega)]
    refine c_rs ?_
    refine qg (run_bldC0 rfl _) ?_
    refine q_sp H.a0 stP_whole (clF_one _ _ _ _) ?_
    clear H
    intro w4 H z4
    iterate 2 refine qa ?_
    refine l_nx ?_
    exact c_ret (r_nx (ret_of ((defL _ _).trans hd) (res_ctt rfl Qv Qv Qv ManyK.out H.v0 (Nat.le_refl _)) (hno 6 _ _ hE (by omega) H)))
  have hl4 : LL.length ≤ 400 := by have := of_decide_eq_false h; omega
  refine c_fin ?_
  refine c_nx ?_
  refine c_rs ?_
  refine qa ?_
  refine l_nx ?_
  refine c_block ?_
  refine c_loop (fun r A W => ∃ i : Nat, i ≤ 4 ∧ 4 - i ≤ r ∧ A.tmps.size = 193 ∧ A.defers = [] ∧ A.eval (.tmp 2) = .pointer (some ⟨w.heap.size, 0, none⟩) ∧ A.eval (.tmp 3) = .pointer (some ⟨w1.heap.size, 0, none⟩) ∧ A.eval (.tmp 4) = .pointer (some ⟨w2.heap.size, 0, none⟩) ∧ A.eval (.tmp 42) = .int .i64 (i : Int) ∧ (∀ j : Nat, j < i → (c.nd j).id = (j : Nat)) ∧ Cx w W (rfL w w1 w2 x lo lc LL fr D)) 4
    ⟨0, Nat.zero_le _, by omega, (szL _ _).trans hs, (defL _ _).trans hd, Qv, Qv, Qv, Qv, fun j hj => absurd hj (by omega), H⟩ (fun r A W hI => ?_)
  clear b2 b3 b4 b35 hs hd H
  obtain ⟨i, hi, hr, hs, hd, b2, b3, b4, b42, hid, H⟩ := hI
  refine c_rs (m_start ?_)
  refine qa ?_
  refine l_nx ?_
  refine c_nx ?_
  refine q_if (fun h => ?_) (fun h => ?_)
  · have hin : i < 4 := by have := of_decide_eq_true h; omega
    refine c_fin ?_
    refine c_nx (c_block ?_)
    refine c_rs ?_
    iterate 2 refine qa ?_
    refine l_nx ?_
    refine c_rs ?_
    iterate 2 refine qa ?_
    refine qg (run_ixG _ _ _ _ rfl ArrK.out SizK.out Qv Qv rfl hin _) ?_
    refine qa ?_
    refine qg (run_lod1 (v := .int .i64 (D i).1.id) _ _ rfl OneK.out Qv H.v2 (by omega) (clG_at fr D (i := i) (j := 0) (by omega))) ?_
    refine qa ?_
    refine qa ?_
    refine l_nx ?_
    refine q_if (fun h => ?_) (fun h => ?_)
    · have hE : frE x c = 7 := by
        have := of_decide_eq_true h
        unfold frE
        rw [if_neg (by rw [ecf]; exact g0), if_neg (by omega), if_neg (fun ⟨e0, e1, e2, e3⟩ => this (by
          rw [← ecn]
          have : i = 0 ∨ i = 1 ∨ i = 2 ∨ i = 3 := by omega
          rcases this with rfl | rfl | rfl | rfl
          · exact e0
          · exact e1
          · exact e2
          · exact e3))]
      refine c_rs ?_
      refine qg (run_bldC0 rfl _) ?_
      refine q_sp H.a0 stP_whole (clF_one _ _ _ _) ?_
      clear H
      intro w4 H z4
      iterate 2 refine qa ?_
      refine l_nx ?_
      exact c_ret (r_bl (r_nx (r_th (r_bl (r_nx (ret_of ((defL _ _).trans hd) (res_ctt rfl Qv Qv Qv ManyK.out H.v0 (Nat.le_refl _)) (hno 7 _ _ hE (by omega) H)))))))
    · have hidi : (D i).1.id = (i : Nat) := by simpa using h
      refine c_finB ?_
      refine c_region ?_
      repeat refine qa ?_
      exact l_round ⟨4 - (i + 1), by omega, i + 1, by omega, by omega, (szL _ _).trans hs, (defL _ _).trans hd, Qv, Qv, Qv, Eq.trans Qv (by rw [Int.natCast_add]; rfl), fun j hj => by
        by_cases e : j = i
        · rw [e, ecn]; exact hidi
        · exact hid j (by omega), H⟩
  obtain rfl : i = 4 := by have := of_decide_eq_false h; omega
  have hE : frE x c = 0 := by
    unfold frE
    rw [if_neg (by rw [ecf]; exact g0), if_neg (by omega), if_pos ⟨hid 0 (by omega), hid 1 (by omega), hid 2 (by omega), hid 3 (by omega)⟩]
  refine c_exit (x_out ?_)
  refine c_rs ?_
  refine qa ?_
  refine q_al H ?_
  clear H
  intro w5 H z5
  refine q_sp H.a0 stP_whole (clG_one _ _) ?_
  clear H
  intro w6 H z6
  refine l_nx ?_
  refine c_rs ?_
  refine q_al H ?_
  clear H
  intro w7 H z7
  refine l_nx ?_
  refine c_nx ?_
  refine c_rs ?_
  refine qa ?_
  refine l_nx ?_
  refine c_block ?_
  have hNd : ∀ k i, k ≤ 5 → i < 4 → NdOK ((wkK x c k).nd i) := fun k i _ hi => (wk_ok hip hcl k).1 i hi
  replace H := (H.add (Below.refl _ _) (mpI w.heap.size noM) (mp_none _ _) (fun j ⟨_, _, e⟩ => e.elim)).f2
  replace H := H.add (Below.refl _ _) (gnI w (fun i => (D i, false))) (fun i hi => hag i hi) (fun j ⟨_, _, e⟩ => e.elim)
  refine c_loop (fun r A W' => ∃ (k : Nat) (E : Nat → (Nd × Ad) × Bool) (T : Nat → (Ms × Ad) × Option Nat), k ≤ 5 ∧ 5 - k ≤ r ∧ rfA A w w1 w2 W w6 k ∧ (∀ i, i < 4 → (E i).1.1 = (wkK x c k).nd i) ∧ (0 < k → ∀ i, i < 4 → (E i).2 = true) ∧ (0 < k → ∀ j : Nat, j < 4 → (j : Int) ≠ x.bad → (∃ b, (T j).2 = some b) ∧ (T j).1.1 = wkM x fr (wkK x c (k - 1)) (k - 1) j) ∧ Cx w W' (gnI w E :: vhI 40 W.heap.size 297 297 (clG fr (fun i => (E i).1)) :: mpI w.heap.size T :: vhI 81 w6.heap.size 4 4 (ptrF T) :: rfL w w1 w2 x lo lc LL fr D)) 5
    ⟨0, fun i => (D i, false), noM, Nat.zero_le _, by omega, ⟨(szL _ _).trans hs, (defL _ _).trans hd, Qv, Qv, Qv, Qv, Qv, Qv⟩, fun i hi => (ecn i).symm, fun h => absurd h (by omega), fun h => absurd h (by omega), H⟩ (fun r A V hI => ?_)
  clear b2 b3 b4 b42 hs hd H
  obtain ⟨k, E, T, hk, hkr, ⟨hs, hd, b2, b3, b4, b8, b9, b10⟩, hE1, hE2, hTm, H⟩ := hI
  refine c_nx ?_
  refine c_rs (m_start ?_)
  iterate 2 refine qa ?_
  refine l_nx ?_
  refine q_if (fun h => ?_) (fun h => ?_)
  · have hk5 : k < 5 := by have := of_decide_eq_true h; omega
    refine c_fin ?_
    refine c_nx (c_block ?_)
    refine c_rs ?_
    refine q_al H ?_
    clear H
    intro V1 H z1'
    obtain ⟨b11, eb11⟩ : ∃ b11, b11 = V.heap.size := ⟨_, rfl⟩
    rw [← eb11] at H ⊢
    refine l_nx ?_
    refine c_nx ?_
    refine c_rs ?_
    refine qa ?_
    refine l_nx ?_
    refine c_block ?_
    replace H := (H.add (Below.refl _ _) (mpI w.heap.size noM) (mp_none _ _) (fun j ⟨_, _, e⟩ => e.elim)).f2.f3.f1
    refine c_loop (fun r A W' => ∃ (i : Nat) (E' : Nat → (Nd × Ad) × Bool) (N : Nat → (Ms × Ad) × Option Nat), i ≤ 4 ∧ 4 - i ≤ r ∧ rfA A w w1 w2 W w6 k ∧ A.eval (.tmp 11) = .pointer (some ⟨b11, 0, none⟩) ∧ A.eval (.tmp 59) = .int .i64 (i : Int) ∧ (∀ j, j < i → (E' j).1.1 = wkN x fr (wkK x c k) k j ∧ (E' j).2 = true) ∧ (∀ j, i ≤ j → E' j = E j) ∧ (∀ j : Nat, j < i → (j : Int) ≠ x.bad → (∃ b, (N j).2 = some b) ∧ (N j).1.1 = wkM x fr (wkK x c k) k j) ∧ Cx w W' (gnI w E' :: vhI 40 W.heap.size 297 297 (clG fr (fun i => (E' i).1)) :: mpI w.heap.size N :: vhI 81 b11 4 4 (ptrF N) :: mpI w.heap.size T :: vhI 81 w6.heap.size 4 4 (ptrF T) :: rfL w w1 w2 x lo lc LL fr D)) 4
      ⟨0, E, noM, Nat.zero_le _, by omega, ⟨(szL _ _).trans hs, (defL _ _).trans hd, Qv, Qv, Qv, Qv, Qv, Qv⟩, Qv, Qv, fun j hj => absurd hj (by omega), fun _ _ => rfl, fun j hj => absurd hj (by omega), H⟩ (fun r A V2 hI => ?_)
    clear b2 b3 b4 b8 b9 b10 hs hd H
    obtain ⟨i, E', N, hi, hir, ⟨hs, hd, b2, b3, b4, b8, b9, b10⟩, b11', b59, hN1, hN2, hN3, H⟩ := hI
    refine c_rs (m_start ?_)
    refine qa ?_
    refine l_nx ?_
    refine c_nx ?_
    refine q_if (fun h => ?_) (fun h => ?_)
    · have hin : i < 4 := by have := of_decide_eq_true h; omega
      have hEi : (E' i).1.1 = (wkK x c k).nd i := by rw [hN2 i (Nat.le_refl _), hE1 i hin]
      have nok : NdOK (E' i).1.1 := by rw [hEi]; exact hNd k i hk hin
      refine c_fin ?_
      refine c_nx (c_block ?_)
      refine c_rs ?_
      iterate 2 refine qa ?_
      refine l_nx ?_
      refine c_nx ?_
      refine c_rs ?_
      iterate 4 refine qa ?_
      refine l_nx ?_
      refine q_if (fun h => ?_) (fun h => ?_)
      · have hbad : (i : Int) = x.bad := of_decide_eq_true h
        have hDi : (D i).1 = (wkK x c k).nd i := by rw [wkK_bad hbad, ecn]
        have dok : NdOK (D i).1 := by rw [hDi]; exact hNd k i hk hin
        refine c_rs ?_
        iterate 3 refine qa ?_
        refine qg (run_ixG _ _ _ _ rfl ArrK.out SizK.out Qv Qv rfl hin _) ?_
        refine qg (Eq.trans (run_loadP _ _ rfl ManyK.out Qv H.v8 (by omega)) (by rw [agV_cong (f := ndF (D i).1 (slV (D i).2 (D i).1.vA.length)) (fun j hj => clG_at fr D hj)])) ?_
        refine q_c1 (show Calls _ _ #[agV (ndF (D i).1 (slV (D i).2 (D i).1.vA.length)) 0 74] _ _ from refCopy_any (D i).1 (D i).2.1 (D i).2.2 _ (Sr.below (hag i hin) H.bel) dok.vA) ?_
        rintro e w8 ⟨a', c', rfl, o8, k8⟩
        refine ⟨agV (ndF (D i).1 (slV (a', c') (D i).1.vA.length)) 0 74, rfl, ?_⟩
        have hsz := H.size
        replace H := H.add k8 (agJ w.heap.size ((D i).1, (a', c'))) (rw_base o8 hsz) (fun j e => (o8.lt j e).1)
        refine qa ?_
        refine qg (run_ixG _ _ _ _ rfl ArrK.out SizK.out Qv Qv rfl hin _) ?_
        refine q_sp H.a2 (clE_set fr E' i ((D i).1, (a', c'))) (ndF_one _ _ _ _) ?_
        clear H
        intro w9 H z9
        refine l_nx ?_
        refine c_exit (x_in ?_)
        refine c_region ?_
        repeat refine qa ?_
        exact l_round ⟨4 - (i + 1), by omega, i + 1, upM E' i (((D i).1, (a', c')), true), N, by omega, by omega, ⟨(szL _ _).trans hs, (defL _ _).trans hd, Qv, Qv, Qv, Qv, Qv, Qv⟩, Qv, Eq.trans Qv (by rw [Int.natCast_add]; rfl), fun j hj => by
          by_cases e : j = i
          · rw [e, upM_same]
            refine ⟨?_, rfl⟩
            show (D i).1 = wkN x fr (wkK x c k) k i
            unfold wkN
            rw [if_pos hbad, hDi]
          · rw [upM_other _ _ e]; exact hN1 j (by omega), fun j hj => by rw [upM_other _ _ (by omega)]; exact hN2 j (by omega), fun j hj hb => hN3 j (by
            have : j ≠ i := fun e => hb (by rw [e]; exact hbad)
            omega) hb, four_set (g := gnJ w) (y := (((D i).1, (a', c')), true)) i H⟩
      · have hbad : (i : Int) ≠ x.bad := by simpa using h
        refine c_fin ?_
        refine c_rs ?_
        refine q_al H ?_
        clear H
        intro V3 H z3'
        obtain ⟨b13, eb13⟩ : ∃ b13, b13 = V2.heap.size := ⟨_, rfl⟩
        rw [← eb13] at H ⊢
        refine l_nx ?_
        refine c_rs ?_
        refine qa ?_
        refine l_nx ?_
        refine c_midS (fun A W' => ∃ (mo : Option Addr) (mc : Nat) (M : List Lm), rfA A w w1 w2 W w6 k ∧ A.eval (.tmp 11) = .pointer (some ⟨b11, 0, none⟩) ∧ A.eval (.tmp 12) = .int .i64 (i : Int) ∧ A.eval (.tmp 13) = .pointer (some ⟨b13, 0, none⟩) ∧ A.eval (.tmp 59) = .int .i64 (i : Int) ∧ A.eval (.tmp 14) = .slice mo M.length mc ∧ M.map Lm.m = (wkK x c k).bx i ∧ MRd W' mo M ∧ M.length ≤ mc ∧ Cx w W' (vhI 67 b13 4 4 (msF 0 0 0 (.slice none 0 0)) :: gnI w E' :: vhI 40 W.heap.size 297 297 (clG fr (fun i => (E' i).1)) :: mpI w.heap.size N :: vhI 81 b11 4 4 (ptrF N) :: mpI w.heap.size T :: vhI 81 w6.heap.size 4 4 (ptrF T) :: rfL w w1 w2 x lo lc LL fr D)) (fun hT => ?_) (fun A V4 hT => ?_)
        · refine c_rs ?_
          iterate 2 refine qa ?_
          refine l_nx ?_
          refine q_if (fun h => ?_) (fun h => ?_)
          · have hk0 : 0 < k := by have := of_decide_eq_true h; omega
            refine c_region ?_
            iterate 4 refine qa ?_
            refine qg (Eq.trans (run_subI _ _ rfl Qv Qv (by omega) (by omega) _) (by rw [show (k : Int) - 1 = ((k - 1 : Nat) : Int) by omega])) ?_
            have hmp : (mpI w.heap.size T).p V3 := H.o5
            refine q_c4 (show Calls _ _ #[.int .i64 (i : Int), agV (ptrF T) 0 4, agV (ipF x.rd x.bad (.slice lo LL.length lc)) 0 14, .int .i64 ((k - 1 : Nat) : Int)] _ _ from refInbox_any x (fun j => (T j).1.1) (fun j => (T j).1.2) (fun j => (T j).2.map fun b => ⟨b, 0, none⟩) lo lc LL i (k - 1) _ hx (hj.below H.bel) hl4 (fun j hj4 _ hb => by
              obtain ⟨⟨b, eb⟩, em⟩ := hTm hk0 j hj4 hb
              obtain ⟨v1, v2, v3⟩ := mp_at hmp hj4 eb
              exact ⟨b, by rw [eb]; rfl, v1, by rw [em, ← ecf]; exact mg_ok hip hcl hj4 hb, v2, v3⟩)) ?_
            rintro e V5 ⟨mo, mc, M, rfl, hM, oM, k5⟩
            refine ⟨_, rfl, ?_⟩
            replace H := H.call k5
            refine qa ?_
            refine l_nx ?_
            have hM' : M.map Lm.m = (wkK x c k).bx i := by
              rw [hM]
              obtain ⟨k', rfl⟩ : ∃ k', k = k' + 1 := ⟨k - 1, by omega⟩
              show _ = bxM x (wkM x c.fr (wkK x c k') k') i k' 4
              refine bxM_cong2 (fun j hj hb => ?_)
              rw [(hTm hk0 j hj hb).2, ecf]
              rfl
            have hMo := map_ok hM' ((wk_ok hip hcl k).2 i hin)
            obtain ⟨_, _, em, hmc⟩ := rw_slice oM.1
            cases em
            exact hT _ _ ⟨mo, mc, M, ⟨(szL _ _).trans hs, (defL _ _).trans hd, Qv, Qv, Qv, Qv, Qv, Qv⟩, Qv, Qv, Qv, Qv, Qv, hM', oM.rd (fun c hc => by have := (hMo c hc).n; omega), hmc, H⟩
          · have hk0 : k = 0 := by have := of_decide_eq_false h; omega
            refine c_fin ?_
            exact hT _ _ ⟨none, 0, [], ⟨(szL _ _).trans hs, (defL _ _).trans hd, Qv, Qv, Qv, Qv, Qv, Qv⟩, Qv, Qv, Qv, Qv, Qv, by rw [hk0]; rfl, ⟨fun h => absurd h (by simp), fun _ h => absurd h (by simp)⟩, Nat.le_refl _, H⟩
        · clear b2 b3 b4 b8 b9 b10 b11' b59 hs hd H
          obtain ⟨mo, mc, M, ⟨hs, hd, b2, b3, b4, b8, b9, b10⟩, b11', b12, b13', b59, b14, hM, hMr, hMc, H⟩ := hT
          have hMo := map_ok hM ((wk_ok hip hcl k).2 i hin)
          have hMl : M.length ≤ 1600 := by
            have h1 := congrArg List.length hM
            rw [List.length_map] at h1
            rw [h1]
            exact bx_len (by omega) k i
          refine c_midS (fun A W' => ∃ (d : Nd × Ad) (m : Ms × Ad), rfA A w w1 w2 W w6 k ∧ A.eval (.tmp 11) = .pointer (some ⟨b11, 0, none⟩) ∧ A.eval (.tmp 12) = .int .i64 (i : Int) ∧ A.eval (.tmp 13) = .pointer (some ⟨b13, 0, none⟩) ∧ A.eval (.tmp 59) = .int .i64 (i : Int) ∧ d.1 = wkN x fr (wkK x c k) k i ∧ m.1 = wkM x fr (wkK x c k) k i ∧ Cx w W' (vhI 67 b13 4 4 (msF m.1.K m.1.F m.1.R (slV m.2 m.1.L.length)) :: tlJ w.heap.size m :: gnI w (upM E' i (d, true)) :: vhI 40 W.heap.size 297 297 (clG fr (fun j => (upM E' i (d, true) j).1)) :: mpI w.heap.size N :: vhI 81 b11 4 4 (ptrF N) :: mpI w.heap.size T :: vhI 81 w6.heap.size 4 4 (ptrF T) :: rfL w w1 w2 x lo lc LL fr D)) (fun hT2 => ?_) (fun A V5 hT2 => ?_)
          · refine c_rs (m_start ?_)
            refine qa ?_
            refine l_nx ?_
            refine c_block ?_
            refine c_rs ?_
            iterate 2 refine qa ?_
            refine l_nx ?_
            refine q_if (fun h => ?_) (fun h => ?_)
            · obtain rfl : k = 0 := by have := of_decide_eq_true h; omega
              replace H := H.drew
              have hc8 : ∀ q, q < 74 → V4.drew.cell? ⟨W.heap.size, 0 + 1 + i * 74 + q, none⟩ = some (ndF (E' i).1.1 (slV (E' i).1.2 (E' i).1.1.vA.length) q) := fun q hq => by
                rw [← clG_at fr (fun i => (E' i).1) hq]
                exact H.v2.cell (by omega)
              have hcf : V4.drew.cell? ⟨w.heap.size, 0 + 0, none⟩ = some (.int .i64 fr) := H.v9.cell (show 0 < 297 by omega)
              have hcr : ∀ q, q < 3 → V4.drew.cell? ⟨w1.heap.size, 0 + 0 + i * 3 + q, none⟩ = some (iV (x.rd i q)) := fun q hq => by
                have := H.v8.cell (i := 0 + 0 + i * 3 + q) (by omega)
                rw [this]
                unfold ipF
                rw [if_pos (by omega), show (0 + 0 + i * 3 + q) / 3 = i by omega, show (0 + 0 + i * 3 + q) % 3 = q by omega]
              have hS : (fun W' => Below V4.drew.heap.size V4.drew W') V4.drew := Below.refl _ _
              refine c_rj (S := fun W' => Below V4.drew.heap.size V4.drew W') (.mv 0 (.mv 1 (.mv 2 (.mv 3 (.rd 4 (.mv 5 (.rd 6 (.mv 7 (.mv 8 (.mv 9 (.rd 10 (.mv 15 (.go 11 (.mv 12 (.mv 13 (.mv 14 (.mv 16 (.go 17 (.go 18 .fin))))))))))))))))))) [17, 18] (by kernel_rfl) (by kernel_rfl) ?_
              iterate 3 refine qj ?_
              refine j_mv rfl rfl (fun _ _ _ h => h) (wanted_rd rfl) (fun w => run_ixG _ _ _ _ rfl ArrK.out SizK.out Qv Qv rfl hin w) ?_
              refine j_rd rfl rfl (fun _ _ _ h => h) (wanted_rd rfl) hS (fun _ H => run_lodCs (g := ndF (E' i).1.1 (slV (E' i).1.2 (E' i).1.1.vA.length)) ManyK.out (fun q hq => at_below (hc8 q hq) H) rfl Qv) ?_
              refine qj ?_
              refine j_rd rfl rfl (fun _ _ _ h => h) (wanted_rd rfl) hS (fun _ H => run_lodR OneK.out (at_below hcf H) rfl Qv) ?_
              iterate 2 refine qj ?_
              refine j_mv rfl rfl (fun _ _ _ h => h) (wanted_rd rfl) (fun w => run_ixG _ _ _ _ rfl ArrK.out SizK.out Qv Qv rfl hin w) ?_
              refine j_rd rfl rfl (fun _ _ _ h => h) (wanted_rd rfl) hS (fun _ H => run_lodCs (g := fun a => iV (x.rd i a)) ManyK.out (fun q hq => at_below (hcr q hq) H) rfl Qv) ?_
              refine qj ?_
              refine j_do rfl rfl (wanted_rd rfl) (fun K0 hK => ?_)
              refine wp_call3n _ _ _ _ _ _ rfl Qv Qv Qv (EntK.out _ _) (show Calls _ _ #[agV (ndF (E' i).1.1 (slV (E' i).1.2 (E' i).1.1.vA.length)) 0 74, .int .i64 fr, agV (fun a => iV (x.rd i a)) 0 3] _ _ from refSense_ok (E' i).1.1 (E' i).1.2.1 (E' i).1.2.2 fr (x.rd i) _ nok (gn_rd H.o1 H.bel hin) (by rw [← ecf]; exact hcl.1) (hip.rd i)) ?_
              rintro e w10 ⟨a', c', a2, c2, rfl, oA, oV, k10⟩
              refine ⟨.tuple #[agV (ndF (senN (E' i).1.1 fr (x.rd i)) (slV (a', c') (senN (E' i).1.1 fr (x.rd i)).vA.length)) 0 74, agV (msF (senM (E' i).1.1 fr (x.rd i)).K (senM (E' i).1.1 fr (x.rd i)).F (senM (E' i).1.1 fr (x.rd i)).R (slV (a2, c2) (senM (E' i).1.1 fr (x.rd i)).L.length)) 0 4], by rw [senN_vA]; rfl, hK _ _ (fun _ h => h.trans (k10.mono h.size)) ?_⟩
              clear hK K0
              replace H := rows_new (n := senN (E' i).1.1 fr (x.rd i)) (a1 := (a', c')) (a2 := (a2, c2)) H k10 (agNew_as oA (senN_vA _ _ _)) oV
              iterate 3 refine qj ?_
              refine j_mv rfl rfl (fun _ _ _ h => h) (wanted_rd rfl) (fun w => run_ixG _ _ _ _ rfl ArrK.out SizK.out Qv Qv rfl hin w) ?_
              refine j_st rfl (wanted_rd rfl) (fun K0 hK => ?_)
              refine wp_storeP _ _ _ _ rfl ManyK.out Qv Qv H.v4 (by omega) (ndF_one _ _ _ _) rfl ?_
              intro w11 m11 k11 z11
              replace H := H.a4.s k11 (m11.congr (clE_set fr E' i (senN (E' i).1.1 fr (x.rd i), (a', c'))))
              refine hK _ (fun h => absurd h (by decide)) ?_
              clear hK K0
              refine j_st rfl (wanted_rd rfl) (fun K0 hK => ?_)
              refine wp_storeP _ _ _ _ rfl ManyK.out Qv Qv H.v2 (by omega) (msF_one _ _ _ _ _ _) rfl ?_
              intro w12 m12 k12 z12
              replace H := H.a2.s k12 (m12.congr stP_whole)
              refine hK _ (fun h => absurd h (by decide)) ?_
              clear hK K0
              refine j_finB ?_
              exact hT2 _ _ ⟨(senN (E' i).1.1 fr (x.rd i), (a', c')), (senM (E' i).1.1 fr (x.rd i), (a2, c2)), ⟨(szL _ _).trans hs, (defL _ _).trans hd, Qv, Qv, Qv, Qv, Qv, Qv⟩, Qv, Qv, Qv, Qv, by show senN (E' i).1.1 fr (x.rd i) = wkN x fr (wkK x c 0) 0 i; rw [hEi]; unfold wkN; rw [if_neg hbad]; rfl, by show senM (E' i).1.1 fr (x.rd i) = wkM x fr (wkK x c 0) 0 i; rw [hEi]; unfold wkM; rw [if_neg hbad]; rfl, (four_set (g := gnJ w) (y := ((senN (E' i).1.1 fr (x.rd i), (a', c')), true)) i H.f3.f1).f2.f2.f1⟩
            · have h0 := of_decide_eq_false h
              refine c_rs ?_
              iterate 2 refine qa ?_
              refine l_nx ?_
              refine q_if (fun h => ?_) (fun h1 => ?_)
              have hP : PhK k fr (x.rd i) 24 := by
                obtain rfl : k = 1 := by have := of_decide_eq_true h; omega
                exact ⟨_, _, refRelay_ok, fun _ _ => rfl, fun _ _ => rfl⟩
              rotate_left
              refine c_rs ?_
              iterate 2 refine qa ?_
              refine l_nx ?_
              refine q_if (fun h => ?_) (fun h2 => ?_)
              have hP : PhK k fr (x.rd i) 25 := by
                obtain rfl : k = 2 := by have := of_decide_eq_true h; omega
                exact ⟨_, _, refDecide_ok, fun _ _ => rfl, fun _ _ => rfl⟩
              rotate_left
              refine c_rs ?_
              iterate 2 refine qa ?_
              refine l_nx ?_
              refine q_if (fun h => ?_) (fun h3 => ?_)
              have hP : PhK k fr (x.rd i) 26 := by
                obtain rfl : k = 3 := by have := of_decide_eq_true h; omega
                exact ⟨_, _, refPass_ok, fun _ _ => rfl, fun _ _ => rfl⟩
              rotate_left
              have hP : PhK k fr (x.rd i) 27 := by
                have h1 := of_decide_eq_false h1
                have h2 := of_decide_eq_false h2
                have h3 := of_decide_eq_false h3
                obtain rfl : k = 4 := by omega
                exact ⟨_, _, refJudge_ok, fun _ _ => rfl, fun _ _ => rfl⟩
              all_goals
                obtain ⟨N', M', hP, eN, eM⟩ := hP
                have eN := eN (E' i).1.1 (M.map Lm.m)
                have eM := eM (E' i).1.1 (M.map Lm.m)
                refine c_region ?_
                iterate 3 refine qa ?_
                refine qg (run_ixG _ _ _ _ rfl ArrK.out SizK.out Qv Qv rfl hin _) ?_
                refine qg (Eq.trans (run_loadP _ _ rfl ManyK.out Qv H.v2 (by omega)) (by rw [agV_cong (f := ndF (E' i).1.1 (slV (E' i).1.2 (E' i).1.1.vA.length)) (fun j hj => clG_at fr (fun i => (E' i).1) hj)])) ?_
                refine qa ?_
                refine q_c2 (show Calls _ _ #[agV (ndF (E' i).1.1 (slV (E' i).1.2 (E' i).1.1.vA.length)) 0 74, .slice mo M.length mc] _ _ from hP (E' i).1.1 (E' i).1.2.1 (E' i).1.2.2 mo mc M _ nok (gn_rd H.o1 H.bel hin) hMr (by omega) hMc (fun m hm => (hMo m hm).L)) ?_
                rintro e w10 ⟨a', c', a2, c2, rfl, oA, oV, k10⟩
                generalize N' (E' i).1.1 (M.map Lm.m) = n' at eN oA ⊢
                generalize M' (E' i).1.1 (M.map Lm.m) = m' at eM oV ⊢
                refine ⟨.tuple #[agV (ndF n' (slV (a', c') n'.vA.length)) 0 74, agV (msF m'.K m'.F m'.R (slV (a2, c2) m'.L.length)) 0 4], rfl, ?_⟩
                replace H := rows_new (a1 := (a', c')) (a2 := (a2, c2)) H k10 oA oV
                iterate 4 refine qa ?_
                refine qg (run_ixG _ _ _ _ rfl ArrK.out SizK.out Qv Qv rfl hin _) ?_
                refine q_sp H.a4 (clE_set fr E' i (n', (a', c'))) (ndF_one _ _ _ _) ?_
                clear H
                intro w11 H z11
                refine q_sp H.a2 stP_whole (msF_one _ _ _ _ _ _) ?_
                clear H
                intro w12 H z12
                refine l_finB ?_
                exact hT2 _ _ ⟨(n', (a', c')), (m', (a2, c2)), ⟨(szL _ _).trans hs, (defL _ _).trans hd, Qv, Qv, Qv, Qv, Qv, Qv⟩, Qv, Qv, Qv, Qv, by unfold wkN; rw [if_neg hbad, ← hEi, ← hM]; exact eN.symm, by unfold wkM; rw [if_neg hbad, ← hEi, ← hM]; exact eM.symm, (four_set (g := gnJ w) (y := ((n', (a', c')), true)) i H.f3.f1).f2.f2.f1⟩
          · clear b2 b3 b4 b8 b9 b10 b11' b59 b12 b13' b14 hs hd H
            obtain ⟨d, m, ⟨hs, hd, b2, b3, b4, b8, b9, b10⟩, b11', b12, b13', b59, hd1, hm1, H⟩ := hT2
            refine c_region (m_start ?_)
            refine qa ?_
            refine qg (run_ixG _ _ _ _ rfl ArrK.out SizK.out Qv Qv rfl hin _) ?_
            refine q_st (q := 0 + i * 1) (g' := ptrF (upM N i (m, some b13))) (u := .pointer (some ⟨b13, 0, none⟩)) H.a5 (fun j hj => by rw [show 0 + i * 1 = i by omega]; exact ptrF_put N i m b13 j hj) ?_
            clear H
            intro V6 H z6'
            refine l_finB ?_
            refine c_region ?_
            repeat refine qa ?_
            exact l_round ⟨4 - (i + 1), by omega, i + 1, upM E' i (d, true), upM N i (m, some b13), by omega, by omega, ⟨(szL _ _).trans hs, (defL _ _).trans hd, Qv, Qv, Qv, Qv, Qv, Qv⟩, Qv, Eq.trans Qv (by rw [Int.natCast_add]; rfl), fun j hj => by
              by_cases e : j = i
              · rw [e, upM_same]; exact ⟨hd1, rfl⟩
              · rw [upM_other _ _ e]; exact hN1 j (by omega), fun j hj => by rw [upM_other _ _ (by omega)]; exact hN2 j (by omega), fun j hj hb => by
              by_cases e : j = i
              · rw [e, upM_same]; exact ⟨⟨b13, rfl⟩, hm1⟩
              · rw [upM_other _ _ e]; exact hN3 j (by omega) hb, (four_set (g := mpJ w.heap.size) (y := (m, some b13)) i H.merge.f3.f1).f2.f2⟩
    · obtain rfl : i = 4 := by have := of_decide_eq_false h; omega
      refine c_exit (x_out ?_)
      refine c_region ?_
      refine qa ?_
      refine q_sp H.a5 stP_whole (ptrF_one _) ?_
      clear H
      intro V3 H z3'
      refine l_finB ?_
      refine c_region ?_
      repeat refine qa ?_
      exact l_round ⟨5 - (k + 1), by omega, k + 1, E', N, by omega, by omega, ⟨(szL _ _).trans hs, (defL _ _).trans hd, Qv, Qv, Qv, Qv, Qv, Eq.trans Qv (by rw [Int.natCast_add]; rfl)⟩, fun i hi => by
        show _ = wkN x c.fr (wkK x c k) k i
        rw [ecf]
        exact (hN1 i hi).1, fun _ i hi => (hN1 i hi).2, fun _ j hj hb => hN3 j hj hb, H.sub (.cons_cons _ (.cons_cons _ (.cons_cons _ (.cons _ (.cons _ (List.Sublist.refl _))))))⟩
  obtain rfl : k = 5 := by have := of_decide_eq_false h; omega
  have hE2 := hE2 (by omega)
  have hTm := hTm (by omega)
  refine c_exit (x_out ?_)
  refine c_rs ?_
  refine qa ?_
  refine l_nx ?_
  refine c_nx ?_
  refine c_rs ?_
  refine qa ?_
  refine l_nx ?_
  refine c_block ?_
  replace H := H.add (Below.refl _ _) (ownI w.heap.size 86 14 (.slice none 0 0) 0 []) (World.ownsRow_nil _ _ _ _) (fun j e => nomatch e)
  refine c_loop (fun r A W' => ∃ (i : Nat) (E' : Nat → (Nd × Ad) × Bool) (u : Value), i ≤ 4 ∧ 4 - i ≤ r ∧ (A.tmps.size = 193 ∧ A.defers = [] ∧ A.eval (.tmp 2) = .pointer (some ⟨w.heap.size, 0, none⟩) ∧ A.eval (.tmp 3) = .pointer (some ⟨w1.heap.size, 0, none⟩) ∧ A.eval (.tmp 4) = .pointer (some ⟨w2.heap.size, 0, none⟩) ∧ A.eval (.tmp 8) = .pointer (some ⟨W.heap.size, 0, none⟩) ∧ A.eval (.tmp 9) = .pointer (some ⟨w6.heap.size, 0, none⟩)) ∧ A.eval (.tmp 15) = u ∧ A.eval (.tmp 160) = .int .i64 (i : Int) ∧ (∀ j, j < i → (E' j).1.1 = frN x c j) ∧ (∀ j, i ≤ j → E' j = E j) ∧ (∀ j, j < 4 → (E' j).2 = true) ∧ Cx w W' (ownI w.heap.size 86 14 u (clL x.bad (wkK x c 5).nd (wkK x c 5).bx i).length (rwS rpF 14 (clL x.bad (wkK x c 5).nd (wkK x c 5).bx i)) :: gnI w E' :: vhI 40 W.heap.size 297 297 (clG fr (fun i => (E' i).1)) :: mpI w.heap.size T :: vhI 81 w6.heap.size 4 4 (ptrF T) :: rfL w w1 w2 x lo lc LL fr D)) 4
    ⟨0, E, _, Nat.zero_le _, by omega, ⟨(szL _ _).trans hs, (defL _ _).trans hd, Qv, Qv, Qv, Qv, Qv⟩, Qv, Qv, fun j hj => absurd hj (by omega), fun _ _ => rfl, hE2, H⟩ (fun r A V2 hI => ?_)
  clear b2 b3 b4 b8 b9 b10 hs hd H
  obtain ⟨i, E', u, hi, hir, ⟨hs, hd, b2, b3, b4, b8, b9⟩, b15, b160, hN1, hN2, hN3, H⟩ := hI
  refine c_rs (m_start ?_)
  refine qa ?_
  refine l_nx ?_
  refine c_nx ?_
  refine q_if (fun h => ?_) (fun h => ?_)
  · have hin : i < 4 := by have := of_decide_eq_true h; omega
    have hEi : (E' i).1.1 = (wkK x c 5).nd i := by rw [hN2 i (Nat.le_refl _), hE1 i hin]
    have nok : NdOK (E' i).1.1 := by rw [hEi]; exact hNd 5 i (Nat.le_refl _) hin
    refine c_fin ?_
    refine c_nx (c_block ?_)
    refine c_rs ?_
    iterate 2 refine qa ?_
    refine l_nx ?_
    refine c_nx ?_
    refine c_rs ?_
    iterate 4 refine qa ?_
    refine l_nx ?_
    refine q_if (fun h => ?_) (fun h => ?_)
    · have hbad : (i : Int) = x.bad := of_decide_eq_true h
      refine c_exit (x_in ?_)
      refine c_region ?_
      repeat refine qa ?_
      exact l_round ⟨4 - (i + 1), by omega, i + 1, E', u, by omega, by omega, ⟨(szL _ _).trans hs, (defL _ _).trans hd, Qv, Qv, Qv, Qv, Qv⟩, Qv, Eq.trans Qv (by rw [Int.natCast_add]; rfl), fun j hj => by
        by_cases e : j = i
        · rw [e, hEi, wkK_bad hbad]
          unfold frN
          rw [if_pos hbad]
        · exact hN1 j (by omega), fun j hj => hN2 j (by omega), hN3, by rw [clL_bad hbad]; exact H⟩
    · have hbad : (i : Int) ≠ x.bad := by simpa using h
      refine c_fin ?_
      refine c_rs ?_
      refine q_al H ?_
      clear H
      intro V3 H z3'
      obtain ⟨b17, eb17⟩ : ∃ b17, b17 = V2.heap.size := ⟨_, rfl⟩
      rw [← eb17] at H ⊢
      refine l_nx ?_
      refine c_nx ?_
      replace H := H.drew
      have hc8 : ∀ q, q < 74 → V3.drew.cell? ⟨W.heap.size, 0 + 1 + i * 74 + q, none⟩ = some (ndF (E' i).1.1 (slV (E' i).1.2 (E' i).1.1.vA.length) q) := fun q hq => by
        rw [← clG_at fr (fun i => (E' i).1) hq]
        exact H.v3.cell (by omega)
      have hc9 : ∀ q, q < 4 → V3.drew.cell? ⟨w6.heap.size, 0 + q, none⟩ = some (ptrF T q) := fun q hq => H.v5.cellz hq
      have hc3 : ∀ q, q < 14 → V3.drew.cell? ⟨w1.heap.size, 0 + q, none⟩ = some (ipF x.rd x.bad (.slice lo LL.length lc) q) := fun q hq => H.v7.cellz hq
      have hmp : (mpI w.heap.size T).p V3.drew := H.o4
      have hS : (fun W' => Below V3.drew.heap.size V3.drew W') V3.drew := Below.refl _ _
      refine c_rj (S := fun W' => Below V3.drew.heap.size V3.drew W') (.mv 0 (.mv 1 (.mv 2 (.mv 3 (.rd 4 (.mv 5 (.rd 6 (.rd 7 (.mv 13 (.go 8 (.go 9 (.mv 10 (.mv 11 (.mv 12 (.mv 14 (.go 15 (.go 16 .fin))))))))))))))))) [15, 16] (by kernel_rfl) (by kernel_rfl) ?_
      iterate 3 refine qj ?_
      refine j_mv rfl rfl (fun _ _ _ h => h) (wanted_rd rfl) (fun w => run_ixG _ _ _ _ rfl ArrK.out SizK.out Qv Qv rfl hin w) ?_
      refine j_rd rfl rfl (fun _ _ _ h => h) (wanted_rd rfl) hS (fun _ H => run_lodCs (g := ndF (E' i).1.1 (slV (E' i).1.2 (E' i).1.1.vA.length)) ManyK.out (fun q hq => at_below (hc8 q hq) H) rfl Qv) ?_
      refine qj ?_
      refine j_rd rfl rfl (fun _ _ _ h => h) (wanted_rd rfl) hS (fun _ H => run_lodCs (g := ptrF T) ManyK.out (fun q hq => at_below (hc9 q hq) H) rfl Qv) ?_
      refine j_rd rfl rfl (fun _ _ _ h => h) (wanted_rd rfl) hS (fun _ H => run_lodCs (g := ipF x.rd x.bad (.slice lo LL.length lc)) ManyK.out (fun q hq => at_below (hc3 q hq) H) rfl Qv) ?_
      refine qj ?_
      refine j_do rfl rfl (wanted_rd rfl) (fun K0 hK => ?_)
      refine wp_call4n _ _ _ _ _ _ _ rfl Qv Qv Qv Qv (EntK.out _ _) (show Calls _ _ #[.int .i64 (i : Int), agV (ptrF T) 0 4, agV (ipF x.rd x.bad (.slice lo LL.length lc)) 0 14, .int .i64 ((4 : Nat) : Int)] _ _ from refInbox_any x (fun j => (T j).1.1) (fun j => (T j).1.2) (fun j => (T j).2.map fun b => ⟨b, 0, none⟩) lo lc LL i 4 _ hx (hj.below H.bel) hl4 (fun j hj4 _ hb => by
        obtain ⟨⟨b, eb⟩, em⟩ := hTm j hj4 hb
        obtain ⟨v1, v2, v3⟩ := mp_at hmp hj4 eb
        exact ⟨b, by rw [eb]; rfl, v1, by rw [em, ← ecf]; exact mg_ok hip hcl hj4 hb, v2, v3⟩)) ?_
      rintro e V5 ⟨mo, mc, M, rfl, hM, oM, k5⟩
      refine ⟨_, rfl, hK _ _ (fun _ h => h.trans (k5.mono h.size)) ?_⟩
      clear hK K0
      replace H := H.call k5
      have hM' : M.map Lm.m = (wkK x c 5).bx i := by
        rw [hM]
        show _ = bxM x (wkM x c.fr (wkK x c 4) 4) i 4 4
        refine bxM_cong2 (fun j hj hb => ?_)
        rw [(hTm j hj hb).2, ecf]
      have hMo := map_ok hM' ((wk_ok hip hcl 5).2 i hin)
      have hMl : M.length ≤ 1600 := by
        have h1 := congrArg List.length hM'
        rw [List.length_map] at h1
        rw [h1]
        exact bx_len (by omega) 5 i
      obtain ⟨_, _, em, hmc⟩ := rw_slice oM.1
      cases em
      have hMr := oM.rd (fun c hc => by have := (hMo c hc).n; omega)
      refine j_do rfl rfl (wanted_rd rfl) (fun K0 hK => ?_)
      refine wp_call2 _ _ _ _ _ rfl Qv Qv (EntK.out _ _) (show Calls _ _ #[agV (ndF (E' i).1.1 (slV (E' i).1.2 (E' i).1.1.vA.length)) 0 74, .slice mo M.length mc] _ _ from refClose_ok (E' i).1.1 (E' i).1.2.1 (E' i).1.2.2 mo mc M _ nok (gn_rd H.o2 H.bel hin) hMr (by omega) hmc (fun m hm => (hMo m hm).L)) ?_
      rintro e V6 ⟨a', c', rfl, oA, k6⟩
      have ecr : cloR (E' i).1.1 (M.map Lm.m) = cloN (E' i).1.1 (M.map Lm.m) := by
        unfold cloR
        rw [if_neg (by rw [hEi, wk_id hE (Nat.le_refl _) hin, noN_at hin]; decide)]
      rw [ecr]
      refine ⟨.tuple #[agV (ndF (cloN (E' i).1.1 (M.map Lm.m)) (slV (a', c') (cloN (E' i).1.1 (M.map Lm.m)).vA.length)) 0 74, agV (rpF (cloN (E' i).1.1 (M.map Lm.m))) 0 14], rfl, hK _ _ (fun _ h => h.trans (k6.mono h.size)) ?_⟩
      clear hK K0
      have hsz6 := H.size
      replace H := H.add k6 (agJ w.heap.size (cloN (E' i).1.1 (M.map Lm.m), (a', c'))) (rw_base oA hsz6) (fun j e => (oA.lt j e).1)
      iterate 3 refine qj ?_
      refine j_mv rfl rfl (fun _ _ _ h => h) (wanted_rd rfl) (fun w => run_ixG _ _ _ _ rfl ArrK.out SizK.out Qv Qv rfl hin w) ?_
      refine j_st rfl (wanted_rd rfl) (fun K0 hK => ?_)
      refine wp_storeP _ _ _ _ rfl ManyK.out Qv Qv H.v4 (by omega) (ndF_one _ _ _ _) rfl ?_
      intro V7 m7 k7 z7'
      replace H := H.a4.s k7 (m7.congr (clE_set fr E' i (cloN (E' i).1.1 (M.map Lm.m), (a', c'))))
      refine hK _ (fun h => absurd h (by decide)) ?_
      clear hK K0
      refine j_st rfl (wanted_rd rfl) (fun K0 hK => ?_)
      refine wp_storeP _ _ _ _ rfl ManyK.out Qv Qv H.v1 (by omega) (rpP_one _ _) rfl ?_
      intro V8 m8 k8 z8'
      replace H := H.a1.s k8 (m8.congr stP_whole)
      refine hK _ (fun h => absurd h (by decide)) ?_
      clear hK K0
      refine j_nx ?_
      refine c_region ?_
      iterate 2 refine qa ?_
      refine m_do rfl (wanted_rd rfl) (fun K0 hK => ?_)
      refine wp_oneG SlcK.out ManyK.out ZerK.out (by decide) (by decide) rfl Qv ?_
      intro V9 m9 k9 z9'
      have hsz9 := H.size
      replace H := H.call k9
      refine hK _ _ ?_
      clear hK K0
      have hln := clL_len x.bad (wkK x c 5).nd (wkK x c 5).bx i
      refine q_ap (bytes := 80) H.a2 (rdc_own (rwS_own1 (B := w.heap.size) (F := rpF) (x := cloN (E' i).1.1 (M.map Lm.m)) m9 (by omega))) (rwS_one (fun x _ => rpP_one x 3)) (by unfold maxLen; omega) (by omega) ?_
      clear H
      intro u' V10 H
      refine qa ?_
      refine l_finB ?_
      refine c_region ?_
      repeat refine qa ?_
      have ecl : clL x.bad (wkK x c 5).nd (wkK x c 5).bx (i + 1) = clL x.bad (wkK x c 5).nd (wkK x c 5).bx i ++ [cloN (E' i).1.1 (M.map Lm.m)] := by rw [clL_good hbad, hEi, hM']
      refine l_round ⟨4 - (i + 1), by omega, i + 1, upM E' i ((cloN (E' i).1.1 (M.map Lm.m), (a', c')), true), u', by omega, by omega, ⟨(szL _ _).trans hs, (defL _ _).trans hd, Qv, Qv, Qv, Qv, Qv⟩, Qv, Eq.trans Qv (by rw [Int.natCast_add]; rfl), fun j hj => ?_, fun j hj => by rw [upM_other _ _ (by omega)]; exact hN2 j (by omega), fun j hj => ?_, ?_⟩
      · by_cases e : j = i
        · rw [e, upM_same]
          show cloN (E' i).1.1 (M.map Lm.m) = frN x c i
          unfold frN
          rw [if_neg hbad, hEi, hM']
        · rw [upM_other _ _ e]; exact hN1 j (by omega)
      · by_cases e : j = i
        · rw [e, upM_same]
        · rw [upM_other _ _ e]; exact hN3 j hj
      · rw [ecl, List.length_append, rwS_app]
        exact (four_set (g := gnJ w) (y := ((cloN (E' i).1.1 (M.map Lm.m), (a', c')), true)) i H.f3.f1).f2.f2.tl
  obtain rfl : i = 4 := by have := of_decide_eq_false h; omega
  refine c_exit (x_out ?_)
  refine c_rs ?_
  refine qa ?_
  refine qg (run_lod1 (v := .int .i64 fr) _ _ rfl OneK.out Qv H.v2 (by omega) rfl) ?_
  have hfr := frE_ok hE
  rw [ecf] at hfr
  iterate 2 refine qa ?_
  refine q_st (q := 0 + 0) (g' := clG (fr + 1) (fun i => (E' i).1)) (u := .int .i64 (fr + 1)) H.a2 (fun j hj => by
    unfold stW clG clF
    by_cases e : j = 0
    · rw [if_pos (by omega), if_pos e]; rfl
    · rw [if_neg (by omega), if_neg e, if_neg e]) ?_
  clear H
  intro V4 H z4'
  refine l_nx ?_
  refine c_rs ?_
  iterate 2 refine qa ?_
  refine q_sp H.a5 stP_whole (clG_one _ _) ?_
  clear H
  intro V5 H z5'
  iterate 2 refine qa ?_
  refine l_nx ?_
  have e1 : frC x c = ⟨fr + 1, frN x c⟩ := by unfold frC; rw [if_pos hE, ecf]
  have e2 := clL_fr (Dn := (wkK x c 5).nd) (Bn := (wkK x c 5).bx) hE (fun _ _ => rfl) (fun _ _ => rfl)
  rw [e2] at H
  refine c_ret (ret_of ((defL _ _).trans hd) (res_ctt rfl Qv Qv Qv ManyK.out H.v5 (Nat.le_refl _)) ⟨fun i => (E' i).1, u, by rw [e1, hE], fun i hi => by rw [e1]; exact hN1 i hi, ?_⟩)
  exact (H.f1.wk (y := agI w.heap.size (fun i => (E' i).1)) (fun h i hi => by
    have h1 : (gnJ w (E' i)).p V5 := h i hi
    unfold gnJ at h1
    rw [if_pos (hN3 i hi)] at h1
    exact h1) (fun k ⟨i, hi, hk⟩ => ⟨i, hi, by
    show (gnJ w (E' i)).foot k
    unfold gnJ
    rw [if_pos (hN3 i hi)]
    exact hk⟩)).f1.sub (.cons_cons _ (.cons_cons _ (List.nil_sublist _)))

end Go.Proofs.YthimcecbgpamdaaGreat

namespace Go.Proofs.YthimcecbgpamdaaGreat
open Go.RowKit

/-- Alike on the four. -/
def RlE (r s : Rl) : Prop := ∀ j, j < 4 → r.I j = s.I j ∧ r.M j = s.M j ∧ r.J j = s.J j
theorem RlE.symm {r s : Rl} (h : RlE r s) : RlE s r := fun j hj => ⟨(h j hj).1.symm, (h j hj).2.1.symm, (h j hj).2.2.symm⟩
theorem RlE.trans {r s t : Rl} (h : RlE r s) (h' : RlE s t) : RlE r t := fun j hj => ⟨(h j hj).1.trans (h' j hj).1, (h j hj).2.1.trans (h' j hj).2.1, (h j hj).2.2.trans (h' j hj).2.2⟩
theorem RlE.refl (r : Rl) : RlE r r := fun _ _ => ⟨rfl, rfl, rfl⟩
theorem insL_congr {b b' : Nat → Bool} {f f' : Nat → Int} : ∀ {k : Nat}, (∀ i, i < k → b i = b' i ∧ f i = f' i) → insL b f k = insL b' f' k
  | 0, _ => rfl
  | k + 1, h => by
    show insL b f k ++ _ = insL b' f' k ++ _
    rw [insL_congr (fun i hi => h i (by omega)), (h k (by omega)).1, (h k (by omega)).2]
theorem ctN8_congr {f g : Nat → Int} : ∀ {k : Nat}, (∀ i, i < k → f i = g i) → ctN8 f k = ctN8 g k
  | 0, _ => rfl
  | k + 1, h => by
    show wrap64 (wrap64 (8 * ctN8 f k) + f k) = wrap64 (wrap64 (8 * ctN8 g k) + g k)
    rw [ctN8_congr (fun i hi => h i (by omega)), h k (by omega)]
theorem pck_congr {ax bx : Nat → St} {r s : Rl} (h : ∀ a, a < 3 → ax a = bx a) (hr : RlE r s) : pck ax r = pck bx s := by
  unfold pck inN
  rw [h 0 (by omega), h 1 (by omega), h 2 (by omega), ctN8_congr (fun i hi => (hr i hi).2.1), ctN8_congr (fun i hi => (hr i hi).2.2), (hr 0 (by omega)).1, (hr 1 (by omega)).1, (hr 2 (by omega)).1, (hr 3 (by omega)).1]
theorem dgN_congr {ax bx : Nat → St} {r s : Rl} (h : ∀ a, a < 3 → ax a = bx a) (hr : RlE r s) : dgN ax r = dgN bx s := by
  have e : pckB ax r = pckB bx s := by
    funext i
    unfold pckB
    rw [pck_congr h hr]
  unfold dgN
  rw [e]
theorem vk_congr {b b' : Nat → Bool} {v v' : Nat → Int} {x : Int} : ∀ {k : Nat}, (∀ i, i < k → b i = b' i ∧ v i = v' i) → vk b v x k = vk b' v' x k
  | 0, _ => rfl
  | k + 1, h => by
    show vk b v x k + _ = vk b' v' x k + _
    rw [vk_congr (fun i hi => h i (by omega)), (h k (by omega)).1, (h k (by omega)).2]
theorem ti_congr {b b' : Nat → Bool} : ∀ {k : Nat}, (∀ i, i < k → b i = b' i) → ti b k = ti b' k
  | 0, _ => rfl
  | k + 1, h => by
    show ti b k + _ = ti b' k + _
    rw [ti_congr (fun i hi => h i (by omega)), h k (by omega)]
theorem stN_congr {A A' : Nat → Bool} {r s : Rl} {i : Nat} (hi : i < 4) (hA : A i = A' i) (h : RlE r s) : RlE (stN A i r) (stN A' i s) := by
  have h4 : cn r.I 4 = cn s.I 4 := cn_congr fun j hj => (h j hj).1
  have hu : ∀ (j : Nat) (α : Type) (f g : Nat → α) (y z : α), f j = g j → y = z → upM f i y j = upM g i z j := fun j α f g y z e1 e2 => by
    unfold upM; rw [e1, e2]
  intro j hj
  obtain ⟨a1, a2, a3⟩ := h j hj
  obtain ⟨b1, b2, b3⟩ := h i hi
  unfold stN
  rw [← hA, ← b1, ← b2, ← b3, ← h4]
  split
  · split
    · exact ⟨a1, hu j Int _ _ _ _ a2 rfl, a3⟩
    · split
      · exact ⟨hu j Bool _ _ _ _ a1 rfl, hu j Int _ _ _ _ a2 rfl, a3⟩
      · exact ⟨a1, hu j Int _ _ _ _ a2 rfl, a3⟩
  · split
    · split
      · exact ⟨hu j Bool _ _ _ _ a1 rfl, a2, hu j Int _ _ _ _ a3 rfl⟩
      · exact ⟨a1, a2, hu j Int _ _ _ _ a3 rfl⟩
    · exact ⟨a1, a2, hu j Int _ _ _ _ a3 rfl⟩
theorem rnN_congr {A A' : Nat → Bool} {r s : Rl} (hA : ∀ i, i < 4 → A i = A' i) (h : RlE r s) : ∀ k, k ≤ 4 → RlE (rnN A r k).1 (rnN A' s k).1
  | 0, _ => h
  | k + 1, hk => stN_congr (by omega) (hA k (by omega)) (rnN_congr hA h k (by omega))

/-- Three that are in and say the same. -/
theorem vote_three {v : Nat → Int} {b : Nat → Bool} {D bad : Int} (h : ∀ s : Nat, s < 4 → (s : Int) ≠ bad → v s = D ∧ b s = true) : vtX v b 4 = D ∧ vtS v b D = true ∧ 0 < ti b 4 := by
  have p : ∀ s : Nat, s < 4 → (s : Int) ≠ bad → (if b s = true ∧ v s = D then 1 else 0) = 1 := fun s hs g => if_pos ⟨(h s hs g).2, (h s hs g).1⟩
  have k3 : 3 ≤ vk b v D 4 := by
    have p0 := p 0 (by omega); have p1 := p 1 (by omega); have p2 := p 2 (by omega); have p3 := p 3 (by omega)
    show 3 ≤ (((0 + if b 0 = true ∧ v 0 = D then 1 else 0) + if b 1 = true ∧ v 1 = D then 1 else 0) + if b 2 = true ∧ v 2 = D then 1 else 0) + if b 3 = true ∧ v 3 = D then 1 else 0
    generalize (if b 0 = true ∧ v 0 = D then 1 else 0) = y0 at *
    generalize (if b 1 = true ∧ v 1 = D then 1 else 0) = y1 at *
    generalize (if b 2 = true ∧ v 2 = D then 1 else 0) = y2 at *
    generalize (if b 3 = true ∧ v 3 = D then 1 else 0) = y3 at *
    omega
  have k1 : ∀ u, u ≠ D → vk b v u 4 ≤ 1 := fun u hu => by
    have q : ∀ s : Nat, s < 4 → (s : Int) ≠ bad → (if b s = true ∧ v s = u then 1 else 0) = 0 := fun s hs g => if_neg (by rintro ⟨_, e⟩; exact hu (e.symm.trans (h s hs g).1))
    have l : ∀ s : Nat, (if b s = true ∧ v s = u then 1 else 0) ≤ 1 := fun s => by split <;> omega
    have p0 := q 0 (by omega); have p1 := q 1 (by omega); have p2 := q 2 (by omega); have p3 := q 3 (by omega)
    have l0 := l 0; have l1 := l 1; have l2 := l 2; have l3 := l 3
    show (((0 + if b 0 = true ∧ v 0 = u then 1 else 0) + if b 1 = true ∧ v 1 = u then 1 else 0) + if b 2 = true ∧ v 2 = u then 1 else 0) + (if b 3 = true ∧ v 3 = u then 1 else 0) ≤ 1
    generalize (if b 0 = true ∧ v 0 = u then 1 else 0) = y0 at *
    generalize (if b 1 = true ∧ v 1 = u then 1 else 0) = y1 at *
    generalize (if b 2 = true ∧ v 2 = u then 1 else 0) = y2 at *
    generalize (if b 3 = true ∧ v 3 = u then 1 else 0) = y3 at *
    omega
  have all : ∀ i, vk b v (v i) 4 ≤ vk b v D 4 := fun i => by
    by_cases e : v i = D
    · rw [e]; exact Nat.le_refl _
    · have := k1 _ e; omega
  have hV : IsV v b 4 D := by
    by_cases c : b 0 = true ∧ v 0 = D
    · exact Or.inr ⟨0, by omega, c.1, c.2.symm, fun i _ _ => all i, fun i hi => by omega⟩
    · have g0 : (0 : Int) = bad := by
        by_cases g : ((0 : Nat) : Int) = bad
        · exact g
        · exact absurd ⟨(h 0 (by omega) g).2, (h 0 (by omega) g).1⟩ c
      have h1 := h 1 (by omega) (by omega)
      refine Or.inr ⟨1, by omega, h1.2, h1.1.symm, fun i _ _ => all i, fun i hi hb => ?_⟩
      obtain rfl : i = 0 := by omega
      have : v 0 ≠ D := fun e => c ⟨hb, e⟩
      have := k1 _ this; omega
  have t1 := vk_le_tt b v D 4
  have t2 := ti_le b 4
  refine ⟨(vtX_at hV).symm, ?_, by omega⟩
  unfold vtS
  exact decide_eq_true ⟨by omega, by omega⟩

section
variable {x : Ip} {c : Cl}
/-- What a good one knows behind Judge, of what it knew ahead. -/
theorem n5_tn (hE : frE x c = 0) {i : Nat} (hi : i < 4) (g : (i : Int) ≠ x.bad) : (ndK x c 5 i).tn = (c.nd i).tn := by rw [jud_at hE hi g, pas_at hE hi g, dec_at hE hi g, rel_atC hE hi g, sen_at hE hi g]
theorem n5_ag (hE : frE x c = 0) {i : Nat} (hi : i < 4) (g : (i : Int) ≠ x.bad) : (ndK x c 5 i).ag = (ndK x c 3 i).ag := by rw [jud_at hE hi g, pas_at hE hi g]
theorem n5_us (hE : frE x c = 0) {i : Nat} (hi : i < 4) (g : (i : Int) ≠ x.bad) : (ndK x c 5 i).us = (ndK x c 3 i).us := by rw [jud_at hE hi g, pas_at hE hi g]
theorem n5_ax (hE : frE x c = 0) {i : Nat} (hi : i < 4) (g : (i : Int) ≠ x.bad) : (ndK x c 5 i).ax = (ndK x c 3 i).ax := by rw [jud_at hE hi g, pas_at hE hi g]
theorem n5_dg (hE : frE x c = 0) {i : Nat} (hi : i < 4) (g : (i : Int) ≠ x.bad) : (ndK x c 5 i).dg = (ndK x c 3 i).dg := by rw [jud_at hE hi g, pas_at hE hi g]
theorem n5_di (hE : frE x c = 0) {i : Nat} (hi : i < 4) (g : (i : Int) ≠ x.bad) : (ndK x c 5 i).di = (ndK x c 2 i).di := by rw [jud_at hE hi g, pas_at hE hi g, dec_at hE hi g]
theorem n2_rl (hE : frE x c = 0) {i : Nat} (hi : i < 4) (g : (i : Int) ≠ x.bad) : (ndK x c 2 i).rl = (c.nd i).rl := by rw [rel_atC hE hi g, sen_at hE hi g]
theorem n2_ax (hE : frE x c = 0) {i : Nat} (hi : i < 4) (g : (i : Int) ≠ x.bad) : (ndK x c 2 i).ax = (c.nd i).ax := by rw [rel_atC hE hi g, sen_at hE hi g]
theorem n2_tn (hE : frE x c = 0) {i : Nat} (hi : i < 4) (g : (i : Int) ≠ x.bad) : (ndK x c 2 i).tn = (c.nd i).tn := by rw [rel_atC hE hi g, sen_at hE hi g]
theorem n4_rl (hE : frE x c = 0) {i : Nat} (hi : i < 4) (g : (i : Int) ≠ x.bad) : (ndK x c 4 i).rl = (c.nd i).rl := by rw [pas_at hE hi g, dec_at hE hi g]; exact n2_rl hE hi g
theorem us_at (hE : frE x c = 0) {i : Nat} (hi : i < 4) (g : (i : Int) ≠ x.bad) (a : Nat) : (ndK x c 3 i).us a = midL (insL (c.nd i).rl.I (fun s => (ndK x c 3 i).ag s a) 4) := by
  rw [dec_at hE hi g, ← n2_rl hE hi g]; rfl
theorem ax_at (hE : frE x c = 0) {i : Nat} (hi : i < 4) (g : (i : Int) ≠ x.bad) (a : Nat) : (ndK x c 3 i).ax a = stepS ((c.nd i).ax a) (c.nd i).tn ((ndK x c 3 i).us a) := by
  rw [dec_at hE hi g, ← n2_ax hE hi g, ← n2_tn hE hi g]; rfl
theorem dg_at (hE : frE x c = 0) {i : Nat} (hi : i < 4) (g : (i : Int) ≠ x.bad) : (ndK x c 3 i).dg = dgN (ndK x c 3 i).ax (c.nd i).rl := by
  rw [dec_at hE hi g, ← n2_rl hE hi g]; rfl
/-- Two good ones that were alike. -/
theorem us_same (hE : frE x c = 0) {i k : Nat} (hi : i < 4) (hk : k < 4) (gi : (i : Int) ≠ x.bad) (gk : (k : Int) ≠ x.bad) (hr : RlE (c.nd i).rl (c.nd k).rl) {a : Nat} (ha : a < 3) : (ndK x c 3 i).us a = (ndK x c 3 k).us a := by
  rw [us_at hE hi gi, us_at hE hk gk, insL_congr fun s hs => ⟨(hr s hs).1, ag_same hE hi hk hs gi gk ha⟩]
theorem ax_same (hE : frE x c = 0) {i k : Nat} (hi : i < 4) (hk : k < 4) (gi : (i : Int) ≠ x.bad) (gk : (k : Int) ≠ x.bad) (ht : (c.nd i).tn = (c.nd k).tn) (ha : ∀ a, a < 3 → (c.nd i).ax a = (c.nd k).ax a) (hr : RlE (c.nd i).rl (c.nd k).rl) {a : Nat} (h3 : a < 3) : (ndK x c 3 i).ax a = (ndK x c 3 k).ax a := by
  rw [ax_at hE hi gi, ax_at hE hk gk, us_same hE hi hk gi gk hr h3, ht, ha a h3]
theorem dg_same (hE : frE x c = 0) {i k : Nat} (hi : i < 4) (hk : k < 4) (gi : (i : Int) ≠ x.bad) (gk : (k : Int) ≠ x.bad) (ht : (c.nd i).tn = (c.nd k).tn) (ha : ∀ a, a < 3 → (c.nd i).ax a = (c.nd k).ax a) (hr : RlE (c.nd i).rl (c.nd k).rl) : (ndK x c 3 i).dg = (ndK x c 3 k).dg := by
  rw [dg_at hE hi gi, dg_at hE hk gk, dgN_congr (fun a h3 => ax_same hE hi hk gi gk ht ha hr h3) hr]
/-- The verdict, where three that are in have one digest. -/
theorem jud_three (hE : frE x c = 0) {i : Nat} {D bad : Int} (hi : i < 4) (gi : (i : Int) ≠ x.bad) (h : ∀ s : Nat, s < 4 → (s : Int) ≠ bad → vtK x c i s = D ∧ (c.nd i).rl.I s = true) :
    (ndK x c 5 i).vX = D ∧ (ndK x c 5 i).vS = true ∧ (∀ s, judA (ndK x c 4 i) (bxK x c 4 i) s = decide (vtK x c i s = D)) := by
  obtain ⟨h1, h2, h3⟩ := vote_three (v := vtK x c i) h
  have e : judX (ndK x c 4 i) (bxK x c 4 i) = D := by
    unfold judX; rw [n4_rl hE hi gi]; exact h1
  refine ⟨?_, ?_, fun s => ?_⟩
  · rw [jud_at hE hi gi]; exact e
  · rw [jud_at hE hi gi]
    show judS _ _ = true
    unfold judS; rw [e, n4_rl hE hi gi]; exact h2
  · unfold judA vtA
    rw [e, n4_rl hE hi gi]
    exact decide_eq_decide.2 ⟨fun q => q.2, fun q => ⟨h3, q⟩⟩
/-- The roll behind it. -/
theorem rl_three (hE : frE x c = 0) {i : Nat} {D bad : Int} (hi : i < 4) (gi : (i : Int) ≠ x.bad) (hg : gdA (c.nd i).rl = true) (h : ∀ s : Nat, s < 4 → (s : Int) ≠ bad → vtK x c i s = D ∧ (c.nd i).rl.I s = true) :
    (ndK x c 5 i).rl = (rnN (fun s => decide (vtK x c i s = D)) (c.nd i).rl 4).1 := by
  obtain ⟨_, h2, h3⟩ := jud_three hE hi gi h
  have e2 : judS (ndK x c 4 i) (bxK x c 4 i) = true := by rw [jud_at hE hi gi] at h2; exact h2
  have e3 : judA (ndK x c 4 i) (bxK x c 4 i) = fun s => decide (vtK x c i s = D) := funext h3
  rw [jud_at hE hi gi]
  show judR _ _ = _
  unfold judR
  rw [e2, e3, n4_rl hE hi gi, stR_strong hg, if_pos rfl]
theorem vA_three (hE : frE x c = 0) {i : Nat} {D bad : Int} (hi : i < 4) (gi : (i : Int) ≠ x.bad) (h : ∀ s : Nat, s < 4 → (s : Int) ≠ bad → vtK x c i s = D ∧ (c.nd i).rl.I s = true) :
    (ndK x c 5 i).vA = (List.range 4).map fun s => decide (vtK x c i s = D) := by
  obtain ⟨_, _, h3⟩ := jud_three hE hi gi h
  rw [jud_at hE hi gi]
  show (List.range 4).map _ = _
  rw [funext h3]
/-- One whose digest did not lose. -/
theorem frN_still (hE : frE x c = 0) {i : Nat} (hi : i < 4) (gi : (i : Int) ≠ x.bad) (h : (ndK x c 5 i).vX = (ndK x c 5 i).dg) : frN x c i = ndK x c 5 i := by
  unfold frN
  rw [if_neg gi]
  show cloN (ndK x c 5 i) (bxK x c 5 i) = _
  unfold cloN cloV
  rw [if_neg (by rw [id5 hE hi gi, noN_at hi]; decide), if_neg (fun q => q.2 h)]
end
theorem frN_bad {x : Ip} {c : Cl} {i : Nat} (h : (i : Int) = x.bad) : frN x c i = c.nd i := if_pos h

/-- Good computers that are alike and in. -/
structure Inv (t : Tn) (bad : Int) (c : Cl) : Prop where
  id : ∀ i, i < 4 → (c.nd i).id = (i : Nat)
  tn : ∀ i, i < 4 → (c.nd i).tn = t
  ax : ∀ i k : Nat, i < 4 → k < 4 → (i : Int) ≠ bad → (k : Int) ≠ bad → ∀ a, a < 3 → (c.nd i).ax a = (c.nd k).ax a
  rl : ∀ i k : Nat, i < 4 → k < 4 → (i : Int) ≠ bad → (k : Int) ≠ bad → RlE (c.nd i).rl (c.nd k).rl
  gd : ∀ i : Nat, i < 4 → (i : Int) ≠ bad → gdA (c.nd i).rl = true
  on : ∀ i s : Nat, i < 4 → s < 4 → (i : Int) ≠ bad → (s : Int) ≠ bad → (c.nd i).rl.I s = true ∧ (c.nd i).rl.M s = 0
theorem begN_at (t : Tn) {i : Nat} (hi : i < 4) : begN (i : Nat) t = { zeroN with id := (i : Nat), tn := t, ax := fun _ => St.beg0, rl := beginR } := by
  unfold begN; rw [if_neg (by rw [noN_at hi]; decide)]
theorem begC_inv (t : Tn) (bad : Int) : Inv t bad (begC t) where
  id i hi := by show (begN (i : Nat) t).id = _; rw [begN_at t hi]
  tn i hi := by show (begN (i : Nat) t).tn = _; rw [begN_at t hi]
  ax i k hi hk _ _ a _ := by show (begN (i : Nat) t).ax a = (begN (k : Nat) t).ax a; rw [begN_at t hi, begN_at t hk]
  rl i k hi hk _ _ := by show RlE (begN (i : Nat) t).rl (begN (k : Nat) t).rl; rw [begN_at t hi, begN_at t hk]; exact RlE.refl _
  gd i hi _ := by show gdA (begN (i : Nat) t).rl = true; rw [begN_at t hi]; rfl
  on i s hi _ _ _ := by show (begN (i : Nat) t).rl.I s = true ∧ (begN (i : Nat) t).rl.M s = 0; rw [begN_at t hi]; exact ⟨rfl, rfl⟩

section
variable {t : Tn} {bad : Int} {x : Ip} {c : Cl}
theorem dg_all (h : Inv t bad c) (hb : x.bad = bad) (hE : frE x c = 0) {i k : Nat} (hi : i < 4) (hk : k < 4) (gi : (i : Int) ≠ bad) (gk : (k : Int) ≠ bad) : (ndK x c 3 i).dg = (ndK x c 3 k).dg :=
  dg_same hE hi hk (by rw [hb]; exact gi) (by rw [hb]; exact gk) ((h.tn i hi).trans (h.tn k hk).symm) (h.ax i k hi hk gi gk) (h.rl i k hi hk gi gk)
theorem vt_all (h : Inv t bad c) (hb : x.bad = bad) (hE : frE x c = 0) {i : Nat} (hi : i < 4) (gi : (i : Int) ≠ bad) : ∀ s : Nat, s < 4 → (s : Int) ≠ bad → vtK x c i s = (ndK x c 3 i).dg ∧ (c.nd i).rl.I s = true := fun s hs gs =>
  ⟨(vt_good hE hi hs (by rw [hb]; exact gi) (by rw [hb]; exact gs)).trans (dg_all h hb hE hs hi gs gi), (h.on i s hi hs gi gs).1⟩
theorem vX_good (h : Inv t bad c) (hb : x.bad = bad) (hE : frE x c = 0) {i : Nat} (hi : i < 4) (gi : (i : Int) ≠ bad) : (ndK x c 5 i).vX = (ndK x c 5 i).dg := by
  rw [n5_dg hE hi (by rw [hb]; exact gi)]
  exact (jud_three hE hi (by rw [hb]; exact gi) (vt_all h hb hE hi gi)).1
theorem fr_good (h : Inv t bad c) (hb : x.bad = bad) (hE : frE x c = 0) {i : Nat} (hi : i < 4) (gi : (i : Int) ≠ bad) : frN x c i = ndK x c 5 i := frN_still hE hi (by rw [hb]; exact gi) (vX_good h hb hE hi gi)
theorem rl_good (h : Inv t bad c) (hb : x.bad = bad) (hE : frE x c = 0) {i : Nat} (hi : i < 4) (gi : (i : Int) ≠ bad) : (ndK x c 5 i).rl = (rnN (fun s => decide (vtK x c i s = (ndK x c 3 i).dg)) (c.nd i).rl 4).1 := rl_three hE hi (by rw [hb]; exact gi) (h.gd i hi gi) (vt_all h hb hE hi gi)
theorem vt_like (h : Inv t bad c) (hb : x.bad = bad) (hE : frE x c = 0) {i k s : Nat} (hi : i < 4) (hk : k < 4) (hs : s < 4) (gi : (i : Int) ≠ bad) (gk : (k : Int) ≠ bad) : decide (vtK x c i s = (ndK x c 3 i).dg) = decide (vtK x c k s = (ndK x c 3 k).dg) := by
  rw [vt_same hE hi hk hs (by rw [hb]; exact gi) (by rw [hb]; exact gk), dg_all h hb hE hi hk gi gk]
theorem vA_like (h : Inv t bad c) (hb : x.bad = bad) (hE : frE x c = 0) {i k : Nat} (hi : i < 4) (hk : k < 4) (gi : (i : Int) ≠ bad) (gk : (k : Int) ≠ bad) : (ndK x c 5 i).vA = (ndK x c 5 k).vA := by
  rw [vA_three hE hi (by rw [hb]; exact gi) (vt_all h hb hE hi gi), vA_three hE hk (by rw [hb]; exact gk) (vt_all h hb hE hk gk)]
  refine List.map_congr_left fun s hs => ?_
  exact vt_like h hb hE hi hk (List.mem_range.1 hs) gi gk
/-- One frame. -/
theorem inv_step (h : Inv t bad c) (hb : x.bad = bad) (hE : frE x c = 0) : Inv t bad ⟨c.fr + 1, frN x c⟩ where
  id i hi := by
    show (frN x c i).id = _
    by_cases g : (i : Int) = bad
    · rw [frN_bad (by rw [hb]; exact g)]; exact h.id i hi
    · rw [fr_good h hb hE hi g]; exact id5 hE hi (by rw [hb]; exact g)
  tn i hi := by
    show (frN x c i).tn = _
    by_cases g : (i : Int) = bad
    · rw [frN_bad (by rw [hb]; exact g)]; exact h.tn i hi
    · rw [fr_good h hb hE hi g, n5_tn hE hi (by rw [hb]; exact g)]; exact h.tn i hi
  ax i k hi hk gi gk a ha := by
    show (frN x c i).ax a = (frN x c k).ax a
    rw [fr_good h hb hE hi gi, fr_good h hb hE hk gk, n5_ax hE hi (by rw [hb]; exact gi), n5_ax hE hk (by rw [hb]; exact gk)]
    exact ax_same hE hi hk (by rw [hb]; exact gi) (by rw [hb]; exact gk) ((h.tn i hi).trans (h.tn k hk).symm) (h.ax i k hi hk gi gk) (h.rl i k hi hk gi gk) ha
  rl i k hi hk gi gk := by
    show RlE (frN x c i).rl (frN x c k).rl
    rw [fr_good h hb hE hi gi, fr_good h hb hE hk gk, rl_good h hb hE hi gi, rl_good h hb hE hk gk]
    exact rnN_congr (fun s hs => vt_like h hb hE hi hk hs gi gk) (h.rl i k hi hk gi gk) 4 (Nat.le_refl _)
  gd i hi gi := by
    show gdA (frN x c i).rl = true
    rw [fr_good h hb hE hi gi, rl_good h hb hE hi gi]
    exact rn_good (h.gd i hi gi) 4
  on i s hi hs gi gs := by
    show (frN x c i).rl.I s = true ∧ (frN x c i).rl.M s = 0
    rw [fr_good h hb hE hi gi, rl_good h hb hE hi gi]
    obtain ⟨a, b⟩ := h.on i s hi hs gi gs
    have := rn_stays (A := fun s => decide (vtK x c i s = (ndK x c 3 i).dg)) a b (decide_eq_true ((vt_all h hb hE hi gi) s hs gs).1) 4
    exact ⟨this.1, this.2.1⟩
end

end Go.Proofs.YthimcecbgpamdaaGreat

namespace Go.Proofs.YthimcecbgpamdaaGreat
open Go.RowKit

theorem midL_in {f : Nat → Int} {n : Nat} {lo hi : Int} (h1 : 1 ≤ n) (h2 : n ≤ 64) (hl : cl f n lo ≤ (n - 1) / 3) (hh : n - 1 - (n - 1) / 3 < cl f n hi + ce f n hi) : lo ≤ midL (lsN f n) ∧ midL (lsN f n) ≤ hi := by
  obtain ⟨m, hm⟩ := mid_ex f n h1
  rw [← midL_at h1 h2 hm]
  obtain ⟨a, b, ha, hb, rfl⟩ := hm
  have k1 := rk_ge ha hl
  have k2 := rk_le hb hh
  have k3 := rk_mono ha hb (by omega)
  omega
/-- All but one. -/
def skI (b i : Nat) : Nat := if i < b then i else i + 1
theorem insL_all {b : Nat → Bool} {f : Nat → Int} (h : ∀ s, s < 4 → b s = true) : insL b f 4 = lsN f 4 := by
  show (((([] ++ _) ++ _) ++ _) ++ _) = _
  rw [h 0 (by omega), h 1 (by omega), h 2 (by omega), h 3 (by omega)]
  rfl
theorem insL_but {b : Nat → Bool} {f : Nat → Int} {q : Nat} (hq : q < 4) (h0 : b q = false) (h : ∀ s, s < 4 → s ≠ q → b s = true) : insL b f 4 = lsN (fun i => f (skI q i)) 3 := by
  show (((([] ++ _) ++ _) ++ _) ++ _) = _
  rcases four hq with rfl | rfl | rfl | rfl
  · rw [h0, h 1 (by omega) (by omega), h 2 (by omega) (by omega), h 3 (by omega) (by omega)]; rfl
  · rw [h0, h 0 (by omega) (by omega), h 2 (by omega) (by omega), h 3 (by omega) (by omega)]; rfl
  · rw [h0, h 0 (by omega) (by omega), h 1 (by omega) (by omega), h 3 (by omega) (by omega)]; rfl
  · rw [h0, h 0 (by omega) (by omega), h 1 (by omega) (by omega), h 2 (by omega) (by omega)]; rfl
theorem ind_if (p : Prop) [Decidable p] : (p → ind p = 1) ∧ (¬ p → ind p = 0) := ⟨ind_yes, ind_no⟩
theorem mid_good {b : Nat → Bool} {f : Nat → Int} {bad lo hi : Int} (h : ∀ s : Nat, s < 4 → (s : Int) ≠ bad → b s = true ∧ lo ≤ f s ∧ f s ≤ hi) : lo ≤ midL (insL b f 4) ∧ midL (insL b f 4) ≤ hi := by
  by_cases ha : ∀ s, s < 4 → b s = true
  · rw [insL_all ha]
    have h0 := h 0 (by omega); have h1 := h 1 (by omega); have h2 := h 2 (by omega); have h3 := h 3 (by omega)
    refine midL_in (by omega) (by omega) ?_ ?_
    · rw [cl4]
      have i0 := ind_if (f 0 < lo); have i1 := ind_if (f 1 < lo); have i2 := ind_if (f 2 < lo); have i3 := ind_if (f 3 < lo)
      have j0 := ind_le (f 0 < lo); have j1 := ind_le (f 1 < lo); have j2 := ind_le (f 2 < lo); have j3 := ind_le (f 3 < lo)
      generalize ind (f 0 < lo) = y0 at *
      generalize ind (f 1 < lo) = y1 at *
      generalize ind (f 2 < lo) = y2 at *
      generalize ind (f 3 < lo) = y3 at *
      by_cases c0 : ((0 : Nat) : Int) = bad
      · have := i1.2 (by have := (h1 (by omega)).2; omega); have := i2.2 (by have := (h2 (by omega)).2; omega); have := i3.2 (by have := (h3 (by omega)).2; omega); omega
      · have := i0.2 (by have := (h0 c0).2; omega)
        by_cases c1 : ((1 : Nat) : Int) = bad
        · have := i2.2 (by have := (h2 (by omega)).2; omega); have := i3.2 (by have := (h3 (by omega)).2; omega); omega
        · have := i1.2 (by have := (h1 c1).2; omega)
          by_cases c2 : ((2 : Nat) : Int) = bad
          · have := i3.2 (by have := (h3 (by omega)).2; omega); omega
          · have := i2.2 (by have := (h2 c2).2; omega); omega
    · rw [cle4]
      have i0 := ind_if (f 0 ≤ hi); have i1 := ind_if (f 1 ≤ hi); have i2 := ind_if (f 2 ≤ hi); have i3 := ind_if (f 3 ≤ hi)
      generalize ind (f 0 ≤ hi) = y0 at *
      generalize ind (f 1 ≤ hi) = y1 at *
      generalize ind (f 2 ≤ hi) = y2 at *
      generalize ind (f 3 ≤ hi) = y3 at *
      by_cases c0 : ((0 : Nat) : Int) = bad
      · have := i1.1 (h1 (by omega)).2.2; have := i2.1 (h2 (by omega)).2.2; have := i3.1 (h3 (by omega)).2.2; omega
      · have := i0.1 (h0 c0).2.2
        by_cases c1 : ((1 : Nat) : Int) = bad
        · have := i2.1 (h2 (by omega)).2.2; have := i3.1 (h3 (by omega)).2.2; omega
        · have := i1.1 (h1 c1).2.2
          by_cases c2 : ((2 : Nat) : Int) = bad
          · have := i3.1 (h3 (by omega)).2.2; omega
          · have := i2.1 (h2 c2).2.2; omega
  · obtain ⟨q, hq, h0⟩ : ∃ q, q < 4 ∧ b q = false := by
      by_cases b0 : b 0 = true
      · by_cases b1 : b 1 = true
        · by_cases b2 : b 2 = true
          · by_cases b3 : b 3 = true
            · exact absurd (fun s hs => by rcases four hs with rfl | rfl | rfl | rfl <;> assumption) ha
            · exact ⟨3, by omega, by simpa using b3⟩
          · exact ⟨2, by omega, by simpa using b2⟩
        · exact ⟨1, by omega, by simpa using b1⟩
      · exact ⟨0, by omega, by simpa using b0⟩
    have hqb : (q : Int) = bad := by
      by_cases e : (q : Int) = bad
      · exact e
      · rw [(h q hq e).1] at h0; cases h0
    rw [insL_but hq h0 (fun s hs hn => (h s hs (by omega)).1)]
    obtain ⟨m, hm⟩ := mid_ex (fun i => f (skI q i)) 3 (by omega)
    rw [← midL_at (by omega) (by omega) hm]
    refine mid_within hm fun i hi => ?_
    have : skI q i < 4 ∧ skI q i ≠ q := by unfold skI; split <;> omega
    exact (h _ this.1 (by omega)).2
section
variable {t : Tn} {bad : Int} {x : Ip} {c : Cl}
/-- What is used lies between good readings. -/
theorem us_within (h : Inv t bad c) (hb : x.bad = bad) (hE : frE x c = 0) {i a : Nat} (hi : i < 4) (gi : (i : Int) ≠ bad) (ha : a < 3) {lo hi' : Int} (hr : ∀ s : Nat, s < 4 → (s : Int) ≠ bad → lo ≤ x.rd s a ∧ x.rd s a ≤ hi') : lo ≤ (frN x c i).us a ∧ (frN x c i).us a ≤ hi' := by
  have gi' : (i : Int) ≠ x.bad := by rw [hb]; exact gi
  rw [fr_good h hb hE hi gi, n5_us hE hi gi', us_at hE hi gi']
  refine mid_good (bad := bad) fun s hs gs => ?_
  rw [ag_good hE hi hs gi' (by rw [hb]; exact gs) ha]
  exact ⟨(h.on i s hi hs gi gs).1, hr s hs gs⟩
/-- Without a bad one: the middle of the four. -/
theorem us_plain (h : Inv t bad c) (hb : x.bad = bad) (hE : frE x c = 0) {i a : Nat} (hn : bad = -1) (hi : i < 4) (ha : a < 3) : (frN x c i).us a = midL [x.rd 0 a, x.rd 1 a, x.rd 2 a, x.rd 3 a] := by
  have g : ∀ s : Nat, (s : Int) ≠ bad := fun s => by omega
  have g' : ∀ s : Nat, (s : Int) ≠ x.bad := fun s => by rw [hb]; exact g s
  rw [fr_good h hb hE hi (g i), n5_us hE hi (g' i), us_at hE hi (g' i), insL_all (fun s hs => (h.on i s hi hs (g i) (g s)).1)]
  show midL [_, _, _, _] = _
  dsimp only
  rw [ag_good hE hi (by omega) (g' i) (g' 0) ha, ag_good hE hi (by omega) (g' i) (g' 1) ha, ag_good hE hi (by omega) (g' i) (g' 2) ha, ag_good hE hi (by omega) (g' i) (g' 3) ha]
theorem ax_follow (h : Inv t bad c) (hb : x.bad = bad) (hE : frE x c = 0) {i a : Nat} (hi : i < 4) (gi : (i : Int) ≠ bad) : (frN x c i).ax a = stepS ((c.nd i).ax a) t ((frN x c i).us a) := by
  have gi' : (i : Int) ≠ x.bad := by rw [hb]; exact gi
  rw [fr_good h hb hE hi gi, n5_ax hE hi gi', n5_us hE hi gi', ax_at hE hi gi', h.tn i hi]
end

/-- A roll's row behind a whole step. -/
theorem rn_at {A : Nat → Bool} {r : Rl} {b : Nat} : ∀ k, b < k → (rnN A r k).1.I b = (stN A b (rnN A r b).1).I b ∧ (rnN A r k).1.M b = (stN A b (rnN A r b).1).M b ∧ (rnN A r k).1.J b = (stN A b (rnN A r b).1).J b
  | 0, h => by omega
  | k + 1, h => by
    by_cases e : b = k
    · subst e; exact ⟨rfl, rfl, rfl⟩
    · obtain ⟨h1, h2, h3⟩ := rn_at (A := A) (r := r) (b := b) k (by omega)
      obtain ⟨g1, g2, g3⟩ := st_other (A := A) (i := k) (r := (rnN A r k).1) (j := b) e
      exact ⟨g1.trans h1, g2.trans h2, g3.trans h3⟩
/-- One dissents, the others are in and assent. -/
theorem rn_dis {A : Nat → Bool} {r : Rl} {b : Nat} (hb : b < 4) (hA : ∀ s, s < 4 → s ≠ b → A s = true ∧ r.I s = true ∧ r.M s = 0) (h0 : A b = false) :
    (r.I b = false → (rnN A r 4).1.I b = false) ∧ (r.I b = true → r.M b = 0 → (rnN A r 4).1.I b = true ∧ (rnN A r 4).1.M b = 1) ∧ (r.I b = true → r.M b = 1 → (rnN A r 4).1.I b = false) := by
  obtain ⟨e1, e2, _⟩ := rn_at (A := A) (r := r) 4 hb
  obtain ⟨f1, f2, _⟩ := rn_rest (A := A) (r := r) b (Nat.le_refl b)
  have hc : r.I b = true → cn (rnN A r b).1.I 4 = 4 := fun hI => cn_all fun s hs => by
    by_cases e : s = b
    · rw [e, f1]; exact hI
    · exact (rn_stays (hA s hs e).2.1 (hA s hs e).2.2 (hA s hs e).1 b).1
  refine ⟨fun hI => ?_, fun hI hM => ?_, fun hI hM => ?_⟩
  · rw [e1, (st_off (by rw [f1]; exact hI) h0).1]; exact f1.trans hI
  · have := hc hI
    rw [e1, e2, (st_miss (by rw [f1]; exact hI) h0 (by rw [f2, hM]; omega)).1]
    refine ⟨f1.trans hI, ?_⟩
    show upM _ _ _ _ = _
    rw [upM_same, f2, hM]; rfl
  · have := hc hI
    rw [e1, (st_out (by rw [f1]; exact hI) h0 (by rw [f2, hM]; omega)).1]
    exact upM_same _ _ _
section
variable {x : Ip} {c : Cl}
/-- One that sends nothing. -/
theorem vt_silent (hE : frE x c = 0) {i b : Nat} (hl : x.ly = []) (hb : x.bad = (b : Int)) (h4 : b < 4) (hi : i < 4) (gi : (i : Int) ≠ x.bad) : vtK x c i b = 0 := by
  rw [vt_tk hE hi gi]
  refine tkH_good (bad := x.bad) (td_good hE) hi h4 gi (fun j hj gj => ?_)
  have hn : b ≠ j := by omega
  rw [pas_at hE hj gj]
  show pasH (ndK x c 3 j) (bxK x c 3 j) b = 0
  unfold pasH
  rw [bxK_succ, frst_bx (fun k hk gk => by rw [ms2 hE hk gk]) hn 4 (Nat.le_refl _), if_pos h4, if_pos hb.symm, hl]
  show (ndK x c 3 j).he b = 0
  rw [dec_at hE hj gj]
  show (if (b : Int) = (ndK x c 2 j).id then _ else (ndK x c 2 j).he b) = 0
  rw [if_neg (by rw [id2 hE hj gj]; omega), rel_atC hE hj gj, sen_at hE hj gj]
end

section
variable {n : Nd} {l m : List Ms}
theorem relN_hear (h : ∀ s, frst n l s 1 3 = frst n m s 1 3) : relN n l = relN n m ∧ relM n l = relM n m := by
  have e : relD n l = relD n m := by
    funext s a
    unfold relD
    rw [h s]
  unfold relN relM
  rw [e]
  exact ⟨rfl, rfl⟩
theorem tkn_hear {many : Nat} (h : ∀ s, frst n l s 2 many = frst n m s 2 many) (s : Nat) (v : Int) (k : Nat) : tkn n l s v k many = tkn n m s v k many := by
  unfold tkn tldN
  rw [h, h]
theorem decN_hear (h : ∀ s, frst n l s 2 12 = frst n m s 2 12) : decN n l = decN n m ∧ decM n l = decM n m := by
  have e : decG n l = decG n m := by
    funext s a
    exact tkn_hear h _ _ _
  have e2 : decU n l = decU n m := by
    funext a
    unfold decU
    rw [e]
  have e3 : decA n l = decA n m := by
    funext a
    unfold decA
    rw [e2]
  have e4 : decD n l = decD n m := by
    unfold decD
    rw [e3]
  unfold decN decM
  rw [e, e2, e3, e4]
  exact ⟨rfl, rfl⟩
theorem pasN_hear (h : ∀ s, frst n l s 3 1 = frst n m s 3 1) : pasN n l = pasN n m ∧ pasM n l = pasM n m := by
  have e : pasH n l = pasH n m := by
    funext s
    unfold pasH
    rw [h s]
  unfold pasN pasM
  rw [e]
  exact ⟨rfl, rfl⟩
theorem judN_hear (h : ∀ s, frst n l s 2 4 = frst n m s 2 4) : judN n l = judN n m ∧ judM n l = judM n m := by
  have e : judV n l = judV n m := by
    funext s
    exact tkn_hear h _ _ _
  have e1 : judX n l = judX n m := by unfold judX; rw [e]
  have e2 : judA n l = judA n m := by
    funext s
    unfold judA
    rw [e, e1]
  have e3 : judS n l = judS n m := by unfold judS; rw [e, e1]
  have e4 : judR n l = judR n m := by unfold judR; rw [e3, e2]
  unfold judN judM
  rw [e1, e2, e3, e4]
  exact ⟨rfl, rfl⟩
theorem cloN_hear (h : ∀ s, frst n l s 5 24 = frst n m s 5 24) : cloN n l = cloN n m := by
  have e : pairN n l = pairN n m := by
    funext p
    unfold pairN
    rw [h, h]
  unfold cloN cloV
  rw [e]
end
/-- The kind and the size that are heard of what a phase tells. -/
def kdP (k : Nat) : Int := if k = 0 then 1 else if k = 1 then 2 else if k = 2 then 3 else if k = 3 then 2 else 5
def mnP (k : Nat) : Nat := if k = 0 then 3 else if k = 1 then 12 else if k = 2 then 1 else if k = 3 then 4 else 24
theorem phN_hear {k : Nat} {n : Nd} {fr : Int} {rd : Nat → Int} {l m : List Ms} (hk : k < 4) (h : ∀ s, frst n l s (kdP k) (mnP k) = frst n m s (kdP k) (mnP k)) : phN (k + 1) n fr rd l = phN (k + 1) n fr rd m ∧ phM (k + 1) n fr rd l = phM (k + 1) n fr rd m := by
  rcases four hk with rfl | rfl | rfl | rfl
  · exact relN_hear h
  · exact decN_hear h
  · exact pasN_hear h
  · exact judN_hear h
theorem frst_box {x : Ip} {told : Nat → Ms} {n : Nd} {s wo ph : Nat} {kind : Int} {many : Nat} (hF : ∀ j : Nat, j < 4 → (j : Int) ≠ x.bad → (told j).F = (j : Nat)) (hid : n.id = (wo : Nat)) :
    frst n (bxM x told wo ph 4) s kind many = if s = wo then none else if s < 4 then (if (s : Int) = x.bad then frst n (liM x.bad wo ph x.ly) s kind many else frst n (wrM (told s)) s kind many) else none := by
  by_cases e : s = wo
  · rw [if_pos e]; exact frst_own (by rw [hid, e])
  · rw [if_neg e, frst_bx hF e 4 (Nat.le_refl _)]
/-- Two inputs that differ only in what nobody hears. -/
theorem wk_hear {x y : Ip} {c : Cl} (hE : frE x c = 0) (hE' : frE y c = 0) (hr : y.rd = x.rd) (hb : y.bad = x.bad) (hl : ∀ k i : Nat, k < 5 → i < 4 → (i : Int) ≠ x.bad → ∀ n : Nd, n.id = (i : Nat) → n.fr = c.fr → ∀ s : Nat, (s : Int) = x.bad → frst n (liM x.bad i k y.ly) s (kdP k) (mnP k) = frst n (liM x.bad i k x.ly) s (kdP k) (mnP k)) :
    ∀ k, k ≤ 5 → ∀ i, i < 4 → ndK y c k i = ndK x c k i ∧ (k < 5 → mgK y c k i = mgK x c k i) ∧ (0 < k → (i : Int) ≠ x.bad → ∀ s, frst (ndK x c k i) (bxK y c k i) s (kdP (k - 1)) (mnP (k - 1)) = frst (ndK x c k i) (bxK x c k i) s (kdP (k - 1)) (mnP (k - 1)))
  | 0, _, i, hi => by
    refine ⟨rfl, fun _ => ?_, fun h => absurd h (by omega)⟩
    by_cases g : (i : Int) = x.bad
    · show (if (i : Int) = y.bad then _ else _) = (if (i : Int) = x.bad then _ else _)
      rw [if_pos g, if_pos (g.trans hb.symm)]
    · rw [mg0 (by rw [hb]; exact g), mg0 g, hr]
  | k + 1, hk, i, hi => by
    have ih := wk_hear hE hE' hr hb hl k (by omega)
    have hF : ∀ (z : Ip), frE z c = 0 → ∀ j : Nat, j < 4 → (j : Int) ≠ z.bad → (mgK z c k j).F = (j : Nat) := fun z hz j hj gj => by
      have : k = 0 ∨ k = 1 ∨ k = 2 ∨ k = 3 ∨ k = 4 := by omega
      rcases this with rfl | rfl | rfl | rfl | rfl
      · rw [ms0 hz hj gj]
      · rw [ms1 hz hj gj]
      · rw [ms2 hz hj gj]
      · rw [ms3 hz hj gj]
      · rw [ms4 hz hj gj]
    have hid : (i : Int) ≠ x.bad → (ndK x c (k + 1) i).id = (i : Nat) ∧ (ndK x c (k + 1) i).fr = c.fr := fun g => by
      have : k = 0 ∨ k = 1 ∨ k = 2 ∨ k = 3 ∨ k = 4 := by omega
      rcases this with rfl | rfl | rfl | rfl | rfl
      · exact ⟨id1 hE hi g, fr1 hE hi g⟩
      · exact ⟨id2 hE hi g, fr2 hE hi g⟩
      · exact ⟨id3 hE hi g, fr3 hE hi g⟩
      · exact ⟨id4 hE hi g, fr4 hE hi g⟩
      · exact ⟨id5 hE hi g, fr5 hE hi g⟩
    have hn : ndK y c (k + 1) i = ndK x c (k + 1) i := by
      by_cases g : (i : Int) = x.bad
      · show (if (i : Int) = y.bad then (wkK y c k).nd i else _) = (if (i : Int) = x.bad then (wkK x c k).nd i else _)
        rw [if_pos g, if_pos (g.trans hb.symm)]; exact (ih i hi).1
      · rw [ndK_succ (by rw [hb]; exact g), ndK_succ g, (ih i hi).1, hr]
        rcases Nat.eq_zero_or_pos k with rfl | hp
        · rfl
        · have := phN_hear (fr := c.fr) (rd := x.rd i) (k := k - 1) (by omega) ((ih i hi).2.2 hp g)
          rw [Nat.sub_add_cancel hp] at this
          exact this.1
    have hbx : (i : Int) ≠ x.bad → ∀ s, frst (ndK x c (k + 1) i) (bxK y c (k + 1) i) s (kdP k) (mnP k) = frst (ndK x c (k + 1) i) (bxK x c (k + 1) i) s (kdP k) (mnP k) := fun g s => by
      rw [bxK_succ, bxK_succ, frst_box (hF y hE') (hid g).1, frst_box (hF x hE) (hid g).1, hb]
      by_cases e : s = i
      · rw [if_pos e, if_pos e]
      · rw [if_neg e, if_neg e]
        by_cases e2 : s < 4
        · rw [if_pos e2, if_pos e2, (ih s e2).2.1 (by omega)]
          by_cases e3 : (s : Int) = x.bad
          · rw [if_pos e3, if_pos e3]; exact hl k i (by omega) hi g _ (hid g).1 (hid g).2 s e3
          · rw [if_neg e3, if_neg e3]
        · rw [if_neg e2, if_neg e2]
    refine ⟨hn, fun h5 => ?_, fun _ g => hbx g⟩
    by_cases g : (i : Int) = x.bad
    · show (if (i : Int) = y.bad then _ else _) = (if (i : Int) = x.bad then _ else _)
      rw [if_pos g, if_pos (g.trans hb.symm)]
    · rw [mgK_at (by rw [hb]; exact g), mgK_at g, hn, hr]
      exact (phN_hear (fr := c.fr) (rd := x.rd i) (k := k) (by omega) (hbx g)).2
theorem fr_hear {x y : Ip} {c : Cl} (hE : frE x c = 0) (hE' : frE y c = 0) (hr : y.rd = x.rd) (hb : y.bad = x.bad) (hl : ∀ k i : Nat, k < 5 → i < 4 → (i : Int) ≠ x.bad → ∀ n : Nd, n.id = (i : Nat) → n.fr = c.fr → ∀ s : Nat, (s : Int) = x.bad → frst n (liM x.bad i k y.ly) s (kdP k) (mnP k) = frst n (liM x.bad i k x.ly) s (kdP k) (mnP k)) :
    ∀ i, i < 4 → frN y c i = frN x c i := fun i hi => by
  obtain ⟨h1, _, h3⟩ := wk_hear hE hE' hr hb hl 5 (Nat.le_refl _) i hi
  unfold frN
  by_cases g : (i : Int) = x.bad
  · rw [if_pos g, if_pos (g.trans hb.symm)]
  · rw [if_neg g, if_neg (by rw [hb]; exact g)]
    show cloN (ndK y c 5 i) (bxK y c 5 i) = cloN (ndK x c 5 i) (bxK x c 5 i)
    rw [h1]
    exact cloN_hear (h3 (by omega) g)

end Go.Proofs.YthimcecbgpamdaaGreat

namespace Go.Proofs.YthimcecbgpamdaaGreat
open Go.RowKit

/-- A state in numbers tells that state. -/
theorem unA_pck (ax : Nat → St) (r : Rl) : ∀ a, a < 3 → unA (pck ax r) a = ax a := by
  have e : ∀ s : St, (⟨s.X, s.V, s.P00, s.P01, s.P11, decide ((0 : Int) < if s.B then 1 else 0), s.M⟩ : St) = s := by
    rintro ⟨_, _, _, _, _, B, _⟩
    cases B <;> rfl
  intro a ha
  have : a = 0 ∨ a = 1 ∨ a = 2 := by omega
  rcases this with rfl | rfl | rfl
  · exact e (ax 0)
  · exact e (ax 1)
  · exact e (ax 2)
theorem inN_bit (b : Nat → Bool) : 0 ≤ inN b ∧ inN b ≤ 15 ∧ ∀ i, i < 4 → decide (inN b / 2 ^ i % 2 = 1) = b i := by unfold inN; split <;> grind
theorem ctN8_num {f : Nat → Int} (h : ∀ i, i < 4 → 0 ≤ f i ∧ f i ≤ 2) : 0 ≤ ctN8 f 4 ∧ ctN8 f 4 ≤ 4095 ∧ ∀ i, i < 4 → ctN8 f 4 / 8 ^ (3 - i) % 8 = f i := by
  have h0 := h 0 (by omega); have h1 := h 1 (by omega); have h2 := h 2 (by omega); have h3 := h 3 (by omega)
  have w : ∀ z : Int, 0 ≤ z → z ≤ 100000 → wrap64 z = z := fun z a b => by unfold wrap64; omega
  have e : ctN8 f 4 = ((f 0 * 8 + f 1) * 8 + f 2) * 8 + f 3 := by
    show wrap64 (wrap64 (8 * wrap64 (wrap64 (8 * wrap64 (wrap64 (8 * wrap64 (wrap64 (8 * 0) + f 0)) + f 1)) + f 2)) + f 3) = _
    rw [w (8 * 0) (by omega) (by omega), w (8 * 0 + f 0) (by omega) (by omega), w (8 * (8 * 0 + f 0)) (by omega) (by omega), w (8 * (8 * 0 + f 0) + f 1) (by omega) (by omega), w (8 * (8 * (8 * 0 + f 0) + f 1)) (by omega) (by omega),
      w (8 * (8 * (8 * 0 + f 0) + f 1) + f 2) (by omega) (by omega), w (8 * (8 * (8 * (8 * 0 + f 0) + f 1) + f 2)) (by omega) (by omega), w (8 * (8 * (8 * (8 * 0 + f 0) + f 1) + f 2) + f 3) (by omega) (by omega)]
    omega
  rw [e]
  refine ⟨by omega, by omega, fun i hi => ?_⟩
  rcases four hi with rfl | rfl | rfl | rfl
  · show _ / 512 % 8 = _; omega
  · show _ / 64 % 8 = _; omega
  · show _ / 8 % 8 = _; omega
  · show _ / 1 % 8 = _; omega
theorem gd_num {r : Rl} (h : gdA r = true) : ∀ i, i < 4 → (0 ≤ r.M i ∧ r.M i ≤ 2) ∧ (0 ≤ r.J i ∧ r.J i ≤ 2) := fun i hi => by
  have g := gdA_iff.1 h i hi
  cases e : r.I i with
  | true => have := (gd_in e).1 g; omega
  | false => have := (gd_out e).1 g; omega
theorem pck21 (ax : Nat → St) (r : Rl) : (pck ax r).getD 21 0 = inN r.I := rfl
theorem pck22 (ax : Nat → St) (r : Rl) : (pck ax r).getD 22 0 = ctN8 r.M 4 := rfl
theorem pck23 (ax : Nat → St) (r : Rl) : (pck ax r).getD 23 0 = ctN8 r.J 4 := rfl
theorem unR_pck (ax : Nat → St) {r : Rl} (h : gdA r = true) : RlE (unR (pck ax r)) r := fun i hi => by
  have hn := gd_num h
  refine ⟨?_, ?_, ?_⟩
  · show decide ((pck ax r).getD 21 0 / 2 ^ i % 2 = 1) = _
    rw [pck21]; exact (inN_bit r.I).2.2 i hi
  · show (pck ax r).getD 22 0 / 8 ^ (3 - i) % 8 = _
    rw [pck22]; exact (ctN8_num fun i hi => (hn i hi).1).2.2 i hi
  · show (pck ax r).getD 23 0 / 8 ^ (3 - i) % 8 = _
    rw [pck23]; exact (ctN8_num fun i hi => (hn i hi).2).2.2 i hi
theorem gdA_congr {r s : Rl} (h : RlE r s) : gdA r = gdA s := by
  unfold gdA
  rw [gd_congr (h 0 (by omega)).1 (h 0 (by omega)).2.1 (h 0 (by omega)).2.2, gd_congr (h 1 (by omega)).1 (h 1 (by omega)).2.1 (h 1 (by omega)).2.2, gd_congr (h 2 (by omega)).1 (h 2 (by omega)).2.1 (h 2 (by omega)).2.2, gd_congr (h 3 (by omega)).1 (h 3 (by omega)).2.1 (h 3 (by omega)).2.2]
theorem unOK_pck (ax : Nat → St) {r : Rl} (h : gdA r = true) : unOK (pck ax r) = true := by
  have hn := gd_num h
  have i1 := inN_bit r.I
  have m1 := ctN8_num fun i hi => (hn i hi).1
  have j1 := ctN8_num fun i hi => (hn i hi).2
  have g : gdA (unR (pck ax r)) = true := by rw [gdA_congr (unR_pck ax h)]; exact h
  have b : ∀ s : St, (0 : Int) ≤ (if s.B then 1 else 0) ∧ ((if s.B then 1 else 0) : Int) ≤ 1 := fun s => by split <;> omega
  unfold unOK
  rw [g, pck21, pck22, pck23, decide_eq_true i1.1, decide_eq_true i1.2.1, decide_eq_true m1.1, decide_eq_true m1.2.1, decide_eq_true j1.1, decide_eq_true j1.2.1]
  show (((decide ((0 : Int) ≤ (if (ax 0).B then 1 else 0)) && decide (((if (ax 0).B then 1 else 0) : Int) ≤ 1)) && ((decide ((0 : Int) ≤ (if (ax 1).B then 1 else 0)) && decide (((if (ax 1).B then 1 else 0) : Int) ≤ 1)) && ((decide ((0 : Int) ≤ (if (ax 2).B then 1 else 0)) && decide (((if (ax 2).B then 1 else 0) : Int) ≤ 1)) && true))) && true && true && true && true && true && true && true) = true
  rw [decide_eq_true (b (ax 0)).1, decide_eq_true (b (ax 0)).2, decide_eq_true (b (ax 1)).1, decide_eq_true (b (ax 1)).2, decide_eq_true (b (ax 2)).1, decide_eq_true (b (ax 2)).2]
  rfl
/-- Three others that tell the same. -/
theorem pairs_three {n : Nd} {l : List Ms} {b : Nat} {v : List Int} (hb : b < 4) (hn : frst n l b 5 24 = none) (h : ∀ s, s < 4 → s ≠ b → frst n l s 5 24 = some v) : prs.findSome? (pairN n l) = some v := by
  have e : ∀ p q, p < 4 → q < 4 → p ≠ b → q ≠ b → pairN n l (p, q) = some v := fun p q hp hq h1 h2 => by
    unfold pairN
    dsimp only
    rw [h p hp h1, h q hq h2]
    exact if_pos rfl
  have z1 : ∀ q, pairN n l (b, q) = none := fun q => by
    unfold pairN
    dsimp only
    rw [hn]
  have z2 : ∀ q, pairN n l (q, b) = none := fun q => by
    unfold pairN
    dsimp only
    rw [hn]
    cases frst n l q 5 24 <;> rfl
  unfold prs
  simp only [List.findSome?_cons]
  rcases four hb with rfl | rfl | rfl | rfl
  · rw [z1, z1, z1, e 1 2 (by omega) (by omega) (by omega) (by omega)]
  · rw [z2, e 0 2 (by omega) (by omega) (by omega) (by omega)]
  · rw [e 0 1 (by omega) (by omega) (by omega) (by omega)]
  · rw [e 0 1 (by omega) (by omega) (by omega) (by omega)]

/-- All four alike; all but b in. -/
structure Al (t : Tn) (b : Nat) (q : Nat) (c : Cl) : Prop where
  id : ∀ i, i < 4 → (c.nd i).id = (i : Nat)
  tn : ∀ i, i < 4 → (c.nd i).tn = t
  ax : ∀ i k : Nat, i < 4 → k < 4 → ∀ a, a < 3 → (c.nd i).ax a = (c.nd k).ax a
  rl : ∀ i k : Nat, i < 4 → k < 4 → RlE (c.nd i).rl (c.nd k).rl
  gd : ∀ i : Nat, i < 4 → gdA (c.nd i).rl = true
  on : ∀ i s : Nat, i < 4 → s < 4 → s ≠ b → (c.nd i).rl.I s = true ∧ (c.nd i).rl.M s = 0
  jn : ∀ i, i < 4 → ((c.nd i).rl.I b = true) ∨ (q : Int) ≤ (c.nd i).rl.J b
section
variable {t : Tn} {b : Nat} {x : Ip} {c : Cl}
/-- The first frame in which it is good again. -/
theorem back_first (h : Inv t (b : Int) c) (hb4 : b < 4) (hbb : c.nd b = begN (b : Nat) t) (hb : x.bad = -1) (hE : frE x c = 0) {g : Nat} (hg : g < 4) (hgb : g ≠ b)
    (hs : (frN x c b).dg = (frN x c g).dg → (∀ a, a < 3 → (frN x c b).ax a = (frN x c g).ax a) ∧ RlE (frN x c b).rl (frN x c g).rl) : Al t b 0 ⟨c.fr + 1, frN x c⟩ := by
  have gx : ∀ i : Nat, (i : Int) ≠ x.bad := fun i => by rw [hb]; omega
  have gn : ∀ i : Nat, i ≠ b → (i : Int) ≠ (b : Int) := fun i e => by omega
  have eb : (c.nd b).rl = beginR := by rw [hbb, begN_at t hb4]
  have hdg : ∀ i k, i < 4 → k < 4 → i ≠ b → k ≠ b → (ndK x c 3 i).dg = (ndK x c 3 k).dg := fun i k hi hk ei ek =>
    dg_same hE hi hk (gx i) (gx k) ((h.tn i hi).trans (h.tn k hk).symm) (h.ax i k hi hk (gn i ei) (gn k ek)) (h.rl i k hi hk (gn i ei) (gn k ek))
  have hgd : ∀ i, i < 4 → gdA (c.nd i).rl = true := fun i hi => by
    by_cases e : i = b
    · rw [e, eb]; rfl
    · exact h.gd i hi (gn i e)
  have hon : ∀ i s, i < 4 → s < 4 → s ≠ b → (c.nd i).rl.I s = true ∧ (c.nd i).rl.M s = 0 := fun i s hi hs e => by
    by_cases e2 : i = b
    · rw [e2, eb]; exact ⟨rfl, rfl⟩
    · exact h.on i s hi hs (gn i e2) (gn s e)
  have hv : ∀ i, i < 4 → ∀ s : Nat, s < 4 → (s : Int) ≠ (b : Int) → vtK x c i s = (ndK x c 3 g).dg ∧ (c.nd i).rl.I s = true := fun i hi s hs e =>
    ⟨(vt_good hE hi hs (gx i) (gx s)).trans (hdg s g hs hg (by omega) hgb), (hon i s hi hs (by omega)).1⟩
  have hr : ∀ i, i < 4 → (ndK x c 5 i).rl = (rnN (fun s => decide (vtK x c i s = (ndK x c 3 g).dg)) (c.nd i).rl 4).1 := fun i hi => rl_three hE hi (gx i) (hgd i hi) (hv i hi)
  have hX : ∀ i, i < 4 → (ndK x c 5 i).vX = (ndK x c 3 g).dg ∧ (ndK x c 5 i).vS = true := fun i hi => ⟨(jud_three hE hi (gx i) (hv i hi)).1, (jud_three hE hi (gx i) (hv i hi)).2.1⟩
  have hf : ∀ i, i < 4 → i ≠ b → frN x c i = ndK x c 5 i := fun i hi e => frN_still hE hi (gx i) (by rw [(hX i hi).1, n5_dg hE hi (gx i)]; exact hdg g i hg hi hgb e)
  have g5 : ∀ i, i < 4 → gdA (ndK x c 5 i).rl = true := fun i hi => by rw [hr i hi]; exact rn_good (hgd i hi) 4
  have o5 : ∀ i s, i < 4 → s < 4 → s ≠ b → (ndK x c 5 i).rl.I s = true ∧ (ndK x c 5 i).rl.M s = 0 := fun i s hi hs e => by
    rw [hr i hi]
    have := rn_stays (A := fun s => decide (vtK x c i s = (ndK x c 3 g).dg)) (hon i s hi hs e).1 (hon i s hi hs e).2 (decide_eq_true (hv i hi s hs (gn s e)).1) 4
    exact ⟨this.1, this.2.1⟩
  have a5 : ∀ i, i < 4 → i ≠ b → ∀ a, a < 3 → (ndK x c 5 i).ax a = (ndK x c 5 g).ax a := fun i hi e a ha => by
    rw [n5_ax hE hi (gx i), n5_ax hE hg (gx g)]
    exact ax_same hE hi hg (gx i) (gx g) ((h.tn i hi).trans (h.tn g hg).symm) (h.ax i g hi hg (gn i e) (gn g hgb)) (h.rl i g hi hg (gn i e) (gn g hgb)) ha
  have r5 : ∀ i, i < 4 → i ≠ b → RlE (ndK x c 5 i).rl (ndK x c 5 g).rl := fun i hi e => by
    rw [hr i hi, hr g hg]
    exact rnN_congr (fun s hs => by rw [vt_same hE hi hg hs (gx i) (gx g)]) (h.rl i g hi hg (gn i e) (gn g hgb)) 4 (Nat.le_refl _)
  -- the one that comes back
  obtain ⟨kI, kT, kA, kR⟩ : (frN x c b).id = (b : Nat) ∧ (frN x c b).tn = t ∧ (∀ a, a < 3 → (frN x c b).ax a = (ndK x c 5 g).ax a) ∧ RlE (frN x c b).rl (ndK x c 5 g).rl := by
    have t5 : (ndK x c 5 b).tn = t := (n5_tn hE hb4 (gx b)).trans (h.tn b hb4)
    by_cases e : (ndK x c 5 b).vX = (ndK x c 5 b).dg
    · have es := frN_still hE hb4 (gx b) e
      have e2 : (frN x c b).dg = (frN x c g).dg := by
        rw [es, hf g hg hgb, ← e, (hX b hb4).1, n5_dg hE hg (gx g)]
      obtain ⟨q1, q2⟩ := hs e2
      rw [hf g hg hgb] at q1 q2
      exact ⟨by rw [es]; exact id5 hE hb4 (gx b), by rw [es]; exact t5, q1, q2⟩
    · have ec : cloV (ndK x c 5 b) (bxK x c 5 b) = some (pck (ndK x c 5 g).ax (ndK x c 5 g).rl) := by
        unfold cloV
        rw [if_pos ⟨(hX b hb4).2, e⟩]
        refine pairs_three hb4 (frst_own (by rw [id5 hE hb4 (gx b)])) (fun s hs es => ?_)
        rw [hear4 hE hb4 hs (gx b) (gx s) es, pck_congr (a5 s hs es) (r5 s hs es)]
      have ef : frN x c b = { ndK x c 5 b with ax := unA (pck (ndK x c 5 g).ax (ndK x c 5 g).rl), rl := unR (pck (ndK x c 5 g).ax (ndK x c 5 g).rl) } := by
        unfold frN
        rw [if_neg (gx b)]
        show cloN (ndK x c 5 b) (bxK x c 5 b) = _
        unfold cloN
        rw [if_neg (by rw [id5 hE hb4 (gx b), noN_at hb4]; decide), ec]
        dsimp only
        rw [if_pos (unOK_pck _ (g5 g hg))]
      rw [ef]
      exact ⟨id5 hE hb4 (gx b), t5, unA_pck _ _, unR_pck _ (g5 g hg)⟩
  have aG : ∀ i, i < 4 → ∀ a, a < 3 → (frN x c i).ax a = (ndK x c 5 g).ax a := fun i hi a ha => by
    by_cases e : i = b
    · rw [e]; exact kA a ha
    · rw [hf i hi e]; exact a5 i hi e a ha
  have rG : ∀ i, i < 4 → RlE (frN x c i).rl (ndK x c 5 g).rl := fun i hi => by
    by_cases e : i = b
    · rw [e]; exact kR
    · rw [hf i hi e]; exact r5 i hi e
  refine ⟨fun i hi => ?_, fun i hi => ?_, fun i k hi hk a ha => (aG i hi a ha).trans (aG k hk a ha).symm, fun i k hi hk => (rG i hi).trans (rG k hk).symm, fun i hi => ?_, fun i s hi hs e => ?_, fun i hi => ?_⟩
  · show (frN x c i).id = _
    by_cases e : i = b
    · rw [e]; exact kI
    · rw [hf i hi e]; exact id5 hE hi (gx i)
  · show (frN x c i).tn = _
    by_cases e : i = b
    · rw [e]; exact kT
    · rw [hf i hi e, n5_tn hE hi (gx i)]; exact h.tn i hi
  · show gdA (frN x c i).rl = true
    rw [gdA_congr (rG i hi)]; exact g5 g hg
  · show (frN x c i).rl.I s = true ∧ (frN x c i).rl.M s = 0
    rw [(rG i hi s hs).1, (rG i hi s hs).2.1]
    exact o5 g s hg hs e
  · show (frN x c i).rl.I b = true ∨ ((0 : Nat) : Int) ≤ (frN x c i).rl.J b
    rw [(rG i hi b hb4).2.2]
    exact Or.inr (gd_num (g5 g hg) b hb4).2.1
/-- Each next frame. -/
theorem back_next {q : Nat} (h : Al t b q c) (hb4 : b < 4) (hb : x.bad = -1) (hE : frE x c = 0) : Al t b (q + 1) ⟨c.fr + 1, frN x c⟩ ∧ (2 ≤ q → ∀ i, i < 4 → (frN x c i).rl.I b = true) ∧ ∀ i k, i < 4 → k < 4 → (frN x c i).dg = (frN x c k).dg := by
  have gx : ∀ i : Nat, (i : Int) ≠ x.bad := fun i => by rw [hb]; omega
  have hdg : ∀ i k, i < 4 → k < 4 → (ndK x c 3 i).dg = (ndK x c 3 k).dg := fun i k hi hk => dg_same hE hi hk (gx i) (gx k) ((h.tn i hi).trans (h.tn k hk).symm) (h.ax i k hi hk) (h.rl i k hi hk)
  have hv : ∀ i, i < 4 → ∀ s : Nat, s < 4 → vtK x c i s = (ndK x c 3 i).dg := fun i hi s hs => (vt_good hE hi hs (gx i) (gx s)).trans (hdg s i hs hi)
  have hv' : ∀ i, i < 4 → ∀ s : Nat, s < 4 → (s : Int) ≠ (b : Int) → vtK x c i s = (ndK x c 3 i).dg ∧ (c.nd i).rl.I s = true := fun i hi s hs e => ⟨hv i hi s hs, (h.on i s hi hs (by omega)).1⟩
  have hr : ∀ i, i < 4 → (ndK x c 5 i).rl = (rnN (fun s => decide (vtK x c i s = (ndK x c 3 i).dg)) (c.nd i).rl 4).1 := fun i hi => rl_three hE hi (gx i) (h.gd i hi) (hv' i hi)
  have hf : ∀ i, i < 4 → frN x c i = ndK x c 5 i := fun i hi => frN_still hE hi (gx i) (by rw [(jud_three hE hi (gx i) (hv' i hi)).1, n5_dg hE hi (gx i)])
  have jn : ∀ i, i < 4 → ((ndK x c 5 i).rl.I b = true ∨ ((q + 1 : Nat) : Int) ≤ (ndK x c 5 i).rl.J b) ∧ (2 ≤ q → (ndK x c 5 i).rl.I b = true) := fun i hi => by
    rw [hr i hi]
    have hA : decide (vtK x c i b = (ndK x c 3 i).dg) = true := decide_eq_true (hv i hi b hb4)
    generalize hAA : (fun s => decide (vtK x c i s = (ndK x c 3 i).dg)) = A
    have hAb : A b = true := by rw [← hAA]; exact hA
    obtain ⟨e1, e2, e3⟩ := rn_at (A := A) (r := (c.nd i).rl) 4 hb4
    obtain ⟨f1, f2, f3⟩ := rn_rest (A := A) (r := (c.nd i).rl) b (Nat.le_refl b)
    cases hI : (c.nd i).rl.I b with
    | true =>
      have : (rnN A (c.nd i).rl 4).1.I b = true := by rw [e1, (st_agree (by rw [f1]; exact hI) hAb).1]; exact f1.trans hI
      exact ⟨Or.inl this, fun _ => this⟩
    | false =>
      have hJ : (q : Int) ≤ (c.nd i).rl.J b := by
        rcases h.jn i hi with k | k
        · rw [hI] at k; cases k
        · exact k
      by_cases c3 : 3 ≤ (rnN A (c.nd i).rl b).1.J b + 1
      · have : (rnN A (c.nd i).rl 4).1.I b = true := by rw [e1, (st_in (by rw [f1]; exact hI) hAb c3).1]; exact upM_same _ _ _
        exact ⟨Or.inl this, fun _ => this⟩
      · rw [f3] at c3
        refine ⟨Or.inr ?_, fun hq => ?_⟩
        · rw [e3, (st_join (by rw [f1]; exact hI) hAb (by rw [f3]; exact c3)).1]
          show _ ≤ upM _ _ _ _
          rw [upM_same, f3]; omega
        · omega
  refine ⟨⟨fun i hi => ?_, fun i hi => ?_, fun i k hi hk a ha => ?_, fun i k hi hk => ?_, fun i hi => ?_, fun i s hi hs e => ?_, fun i hi => ?_⟩, fun hq i hi => ?_, fun i k hi hk => ?_⟩
  · show (frN x c i).id = _; rw [hf i hi]; exact id5 hE hi (gx i)
  · show (frN x c i).tn = _; rw [hf i hi, n5_tn hE hi (gx i)]; exact h.tn i hi
  · show (frN x c i).ax a = (frN x c k).ax a
    rw [hf i hi, hf k hk, n5_ax hE hi (gx i), n5_ax hE hk (gx k)]
    exact ax_same hE hi hk (gx i) (gx k) ((h.tn i hi).trans (h.tn k hk).symm) (h.ax i k hi hk) (h.rl i k hi hk) ha
  · show RlE (frN x c i).rl (frN x c k).rl
    rw [hf i hi, hf k hk, hr i hi, hr k hk]
    exact rnN_congr (fun s hs => by rw [decide_eq_true (hv i hi s hs), decide_eq_true (hv k hk s hs)]) (h.rl i k hi hk) 4 (Nat.le_refl _)
  · show gdA (frN x c i).rl = true; rw [hf i hi, hr i hi]; exact rn_good (h.gd i hi) 4
  · show (frN x c i).rl.I s = true ∧ (frN x c i).rl.M s = 0
    rw [hf i hi, hr i hi]
    have := rn_stays (A := fun s => decide (vtK x c i s = (ndK x c 3 i).dg)) (h.on i s hi hs e).1 (h.on i s hi hs e).2 (decide_eq_true (hv i hi s hs)) 4
    exact ⟨this.1, this.2.1⟩
  · show (frN x c i).rl.I b = true ∨ ((q + 1 : Nat) : Int) ≤ (frN x c i).rl.J b
    rw [hf i hi]; exact (jn i hi).1
  · rw [hf i hi]; exact (jn i hi).2 hq
  · rw [hf i hi, hf k hk, n5_dg hE hi (gx i), n5_dg hE hk (gx k)]; exact hdg i k hi hk
end

end Go.Proofs.YthimcecbgpamdaaGreat

namespace Go.Proofs.YthimcecbgpamdaaGreat
open Go.RowKit

/-- Things of a list. -/
def listI {α : Type} (f : α → It) (L : List α) : It := ⟨fun w => ∀ x, x ∈ L → (f x).p w, fun k => ∃ x, x ∈ L ∧ (f x).foot k, fun h e x hx => (f x).ok (h x hx) (fun k h1 h2 => e k h1 ⟨x, hx, h2⟩), fun h ⟨x, hx, e⟩ => (f x).lt (h x hx) e⟩
theorem list_push {α : Type} {f : α → It} {L : List α} {y : α} {w0 w : World} {l : List It} (H : Cx w0 w (f y :: listI f L :: l)) : Cx w0 w (listI f (L ++ [y]) :: l) := by
  refine H.merge.wk (fun h x hx => ?_) (fun k ⟨x, hx, hk⟩ => ?_)
  · rcases List.mem_append.1 hx with hx | hx
    · exact h.2 x hx
    · simp only [List.mem_cons, List.not_mem_nil, or_false] at hx
      rw [hx]; exact h.1
  · rcases List.mem_append.1 hx with hx | hx
    · exact Or.inr ⟨x, hx, hk⟩
    · simp only [List.mem_cons, List.not_mem_nil, or_false] at hx
      rw [hx] at hk; exact Or.inl hk
theorem Cx.plus {w0 w w' : World} {l m : List It} (H : Cx w0 w l) (G : Cx w w' m) : Cx w0 w' (m ++ l) := by
  have H' := H.call G.bel
  have hs := H.size
  refine ⟨H'.bel, fun x hx => ?_, fun x hx k hk => ?_, List.pairwise_append.2 ⟨G.dis, H.dis, fun x hx y hy k h1 h2 => ?_⟩⟩
  · rcases List.mem_append.1 hx with hx | hx
    · exact G.it x hx
    · exact H'.it x hx
  · rcases List.mem_append.1 hx with hx | hx
    · have := G.up x hx k hk; omega
    · exact H.up x hx k hk
  · have h3 := G.up x hx k h1
    have h4 := y.lt (H.it y hy) h2
    omega
/-- Another base for rows. -/
theorem ownI_base {w0 w : World} {B C : Nat} {t : TypeId} {s : Nat} {v : Value} {n : Nat} {xs : List Value} {l : List It} (H : Cx w0 w (ownI B t s v n xs :: l)) (h : C ≤ B) : Cx w0 w (ownI C t s v n xs :: l) := H.wk (fun h1 => rw_base h1 h) (fun _ h => h)
theorem agI_base {w0 w : World} {B C : Nat} {D : Nat → Nd × Ad} {l : List It} (H : Cx w0 w (agI B D :: l)) (h : C ≤ B) : Cx w0 w (agI C D :: l) := H.wk (fun h1 i hi => rw_base (h1 i hi) h) (fun _ h => h)
/-- The clusters, frame by frame. -/
def cK (t : Tn) (L : List Li) : Nat → Cl
  | 0 => begC t
  | k + 1 => match L[k]? with | some c => frC c.x (cK t L k) | none => cK t L k
theorem cK_succ {t : Tn} {L : List Li} {k : Nat} {c : Li} (h : L[k]? = some c) : cK t L (k + 1) = frC c.x (cK t L k) := by
  show (match L[k]? with | some c => frC c.x (cK t L k) | none => cK t L k) = _
  rw [h]
theorem cloN_id (n : Nd) (l : List Ms) : (cloN n l).id = n.id := by
  unfold cloN
  split
  · rfl
  · split
    · split <;> rfl
    · rfl
theorem frN_id {x : Ip} {c : Cl} (hE : frE x c = 0) {i : Nat} (hi : i < 4) : (frN x c i).id = (i : Nat) := by
  unfold frN
  split
  · exact id0 hE hi
  · rw [cloN_id]; exact wk_id hE (Nat.le_refl _) hi
theorem frE_zero {x : Ip} {c : Cl} (h1 : -1 ≤ x.bad ∧ x.bad < 4) (h2 : 0 ≤ c.fr ∧ c.fr ≤ 1073741823) (h3 : x.ly.length ≤ 400) (h4 : ∀ i, i < 4 → (c.nd i).id = (i : Nat)) : frE x c = 0 := by grind [frE]
/-- Inputs of which frames can be made. -/
def InOK (L : List Li) : Prop := L.length ≤ 1000 ∧ ∀ c, c ∈ L → (-1 ≤ c.bad ∧ c.bad < 4) ∧ c.LL.length ≤ 400
theorem cK_ok {t : Tn} {L : List Li} (h : InOK L) : ∀ k, k ≤ L.length → (cK t L k).fr = (k : Nat) ∧ (∀ i, i < 4 → ((cK t L k).nd i).id = (i : Nat)) ∧ (∀ c, L[k]? = some c → frE c.x (cK t L k) = 0)
  | 0, _ => by
    have h2 : ∀ i, i < 4 → ((cK t L 0).nd i).id = (i : Nat) := fun i hi => (begC_inv t (-1)).id i hi
    refine ⟨rfl, h2, fun c hc => ?_⟩
    obtain ⟨h3, h4⟩ := h.2 c (List.mem_of_getElem? hc)
    exact frE_zero h3 ⟨Int.le_refl _, (show (0 : Int) ≤ 1073741823 by decide)⟩ (by show (c.LL.map Lj.y).length ≤ 400; rw [List.length_map]; exact h4) h2
  | k + 1, hk => by
    obtain ⟨g1, g2, g3⟩ := cK_ok h k (by omega)
    have hc := List.getElem?_eq_getElem (show k < L.length by omega)
    have hE := g3 _ hc
    have e : cK t L (k + 1) = ⟨(cK t L k).fr + 1, frN (L[k]).x (cK t L k)⟩ := by rw [cK_succ hc]; unfold frC; rw [if_pos hE]
    have e1 : (cK t L (k + 1)).fr = ((k + 1 : Nat) : Int) := by rw [e]; show (cK t L k).fr + 1 = _; rw [g1]; omega
    have e2 : ∀ i, i < 4 → ((cK t L (k + 1)).nd i).id = (i : Nat) := fun i hi => by rw [e]; exact frN_id hE hi
    refine ⟨e1, e2, fun c hc => ?_⟩
    obtain ⟨h3, h4⟩ := h.2 c (List.mem_of_getElem? hc)
    have := h.1
    exact frE_zero h3 (by rw [e1]; omega) (by show (c.LL.map Lj.y).length ≤ 400; rw [List.length_map]; exact h4) e2
theorem cK_cls {t : Tn} {L : List Li} (ht : t.Ok) (hL : ∀ c, c ∈ L → IpOK c.x) : ∀ k, ClsOK (cK t L k)
  | 0 => begC_ok ht
  | k + 1 => by
    show ClsOK (match L[k]? with | some c => frC c.x (cK t L k) | none => cK t L k)
    split
    · rename_i c hc
      exact frC_ok (hL c (List.mem_of_getElem? hc)) (cK_cls ht hL k)
    · exact cK_cls ht hL k
/-- A cluster of a row; reports of a row. -/
def clH (d : Int × (Nat → Nd × Ad)) : Nat → Value := clG d.1 d.2
def rsH (d : List Nd × Ad) (_ : Nat) : Value := slV d.2 d.1.length
def rsJ (B : Nat) (d : List Nd × Ad) : It := ownI B 86 14 (slV d.2 d.1.length) d.1.length (rwS rpF 14 d.1)
theorem frC_congr {x : Ip} {fr : Int} {D : Nat → Nd × Ad} {c : Cl} (hf : c.fr = fr) (hn : ∀ i, i < 4 → (D i).1 = c.nd i) : frE x ⟨fr, fun i => (D i).1⟩ = frE x c ∧ (frC x ⟨fr, fun i => (D i).1⟩).fr = (frC x c).fr ∧ (∀ i, i < 4 → (frC x ⟨fr, fun i => (D i).1⟩).nd i = (frC x c).nd i) ∧ frR x ⟨fr, fun i => (D i).1⟩ = frR x c := by
  have hk : ∀ k, ∀ i, i < 4 → (wkK x ⟨fr, fun i => (D i).1⟩ k).nd i = (wkK x c k).nd i ∧ (wkK x ⟨fr, fun i => (D i).1⟩ k).bx i = (wkK x c k).bx i := by
    intro k
    induction k with
    | zero => exact fun i hi => ⟨hn i hi, rfl⟩
    | succ k ih =>
      intro i hi
      obtain ⟨h1, h2⟩ := ih i hi
      refine ⟨?_, ?_⟩
      · show wkN x fr _ k i = wkN x c.fr _ k i
        rw [hf]
        exact (wkN_of h1 h2).1
      · show bxM x _ i k 4 = bxM x _ i k 4
        refine bxM_congr fun j hj => ?_
        obtain ⟨h3, h4⟩ := ih j hj
        show wkM x fr _ k j = wkM x c.fr _ k j
        rw [hf]
        exact (wkN_of h3 h4).2
  have hN : ∀ i, i < 4 → frN x ⟨fr, fun i => (D i).1⟩ i = frN x c i := fun i hi => by
    unfold frN
    rw [(hk 5 i hi).1, (hk 5 i hi).2]
    show (if _ then (D i).1 else _) = _
    rw [hn i hi]
  have hE : frE x ⟨fr, fun i => (D i).1⟩ = frE x c := by
    unfold frE
    dsimp only
    simp only [hf, hn 0 (by omega), hn 1 (by omega), hn 2 (by omega), hn 3 (by omega)]
  refine ⟨hE, ?_, fun i hi => ?_, ?_⟩
  · unfold frC
    rw [hE]
    split
    · show fr + 1 = c.fr + 1; rw [hf]
    · rfl
  · unfold frC
    rw [hE]
    split
    · exact hN i hi
    · rfl
  · unfold frR
    rw [hE]
    split
    · refine List.map_congr_left fun i hi => hN i ?_
      unfold gdL at hi
      exact List.mem_range.1 (List.mem_filter.1 hi).1
    · rfl
theorem res_t3 {P : Program} {a : Act} {w : World} {fn : Func} {p p' p2 : Nat} {u v z : Value} (h : fn.results = #[.tmp p, .tmp p', .tmp p2]) (hv : a.eval (.tmp p) = u) (hv' : a.eval (.tmp p') = v) (hv2 : a.eval (.tmp p2) = z) : (results fn a.tmps).run P w = .ok (.tuple #[u, v, z]) w := by
  have e := getD_ev hv; have e2 := getD_ev hv'; have e3 := getD_ev hv2
  simp only [Array.getD_eq_getD_getElem?] at e e2 e3
  simp [results, h, e, e2, e3]
end Go.Proofs.YthimcecbgpamdaaGreat

namespace Go.Proofs.YthimcecbgpamdaaGreat
open Go.RowKit

/-- Behind the first k inputs. -/
def rK (t : Tn) (L : List Li) (k : Nat) : Rn := ((L.take k).map Li.x).foldl rnS ⟨begC t, [], 0⟩
theorem rK_succ {t : Tn} {L : List Li} {k : Nat} {c : Li} (h : L[k]? = some c) : rK t L (k + 1) = rnS (rK t L k) c.x := by
  unfold rK
  rw [List.take_add_one, h, List.map_append, List.foldl_append]
  rfl
theorem rn_stop {s : Rn} (h : s.e ≠ 0) : ∀ l : List Ip, l.foldl rnS s = s
  | [] => rfl
  | x :: l => by
    show l.foldl rnS (rnS s x) = s
    have : rnS s x = s := by unfold rnS; rw [if_neg h]
    rw [this]
    exact rn_stop h l
theorem rK_end {t : Tn} {L : List Li} (hl : L.length ≤ 200) {k : Nat} (h : L.length ≤ k ∨ (rK t L k).e ≠ 0) : rnF t (L.map Li.x) = rK t L k := by
  unfold rnF
  rw [if_neg (by rw [List.length_map]; omega)]
  have e : L.map Li.x = (L.take k).map Li.x ++ (L.drop k).map Li.x := by rw [← List.map_append, List.take_append_drop]
  rw [e, List.foldl_append]
  show ((L.drop k).map Li.x).foldl rnS (rK t L k) = _
  rcases h with h | h
  · rw [List.drop_of_length_le h]; rfl
  · exact rn_stop h _
theorem rnS_ok {s : Rn} {x : Ip} (h : s.e = 0) (hE : frE x s.c = 0) : rnS s x = ⟨frC x s.c, s.r ++ frR x s.c, 0⟩ := by unfold rnS; rw [if_pos h, if_pos hE]
theorem rnS_no {s : Rn} {x : Ip} (h : s.e = 0) (hE : frE x s.c ≠ 0) : rnS s x = ⟨zeroC, [], frE x s.c⟩ := by unfold rnS; rw [if_pos h, if_neg hE]
/-- What Run is held to, whoever wrote it. -/
def RuC (fn : Nat) : Prop := ∀ (t : Tn) (mo : Option Addr) (mc : Nat) (L : List Li) (w : World), t.Ok → RdS inpF 14 w mo L → (∀ c, c ∈ L → LiOK w c) →
  Calls Tryz.prog fn #[agV (ntnF t) 0 4, .slice mo L.length mc] w fun e w' => ∃ (D : Nat → Nd × Ad) (v : Value), e = .returned (.tuple #[agV (clG (rnF t (L.map Li.x)).c.fr D) 0 297, v, .int .i64 (rnF t (L.map Li.x)).e]) ∧ (∀ i, i < 4 → (D i).1 = (rnF t (L.map Li.x)).c.nd i) ∧ Cx w w' [ownI w.heap.size 86 14 v (rnF t (L.map Li.x)).r.length (rwS rpF 14 (rnF t (L.map Li.x)).r), agI w.heap.size D]
theorem frR_len (x : Ip) (c : Cl) : (frR x c).length ≤ 4 := by grind [frR, gdL]
set_option maxHeartbeats 2000000 in
theorem clRun_ok : RuC 12 := by
  intro t mo mc L w ht hr hok
  refine enterF Tryz.func12 rfl 44 rfl (of_decide_eq_true rfl) (fun A hs hd hb => ?_)
  have b0 : A.eval (.tmp 0) = agV (ntnF t) 0 4 := hb 0 _ rfl
  have b1 : A.eval (.tmp 1) = .slice mo L.length mc := hb 1 _ rfl
  clear hb
  have H := Cx.start w
  refine c_rs (m_start ?_)
  refine q_box H ?_
  intro w1 H z1
  refine q_al H ?_
  intro w2 H z2
  iterate 2 refine qa ?_
  refine l_nx ?_
  refine c_nx ?_
  refine c_rs ?_
  iterate 3 refine qa ?_
  refine l_nx ?_
  refine q_if (fun h => ?_) (fun h => ?_)
  · have hl : 200 < L.length := by have := of_decide_eq_true h; omega
    have eF : rnF t (L.map Li.x) = ⟨zeroC, [], 6⟩ := by unfold rnF; rw [if_pos (by rw [List.length_map]; exact hl)]
    refine c_rs ?_
    refine qg (run_bldC0 rfl _) ?_
    refine q_sp H.a0 stP_whole (clF_one _ _ _ _) ?_
    intro w3 H z3
    repeat first | refine qa ?_ | refine l_nx ?_
    refine c_ret (r_nx (ret_of ((defL _ _).trans hd) (res_ctt rfl Qv Qv Qv ManyK.out H.v0 (Nat.le_refl _)) ⟨fun _ => (zeroN, (none, 0)), _, by rw [eF]; rfl, fun i hi => by rw [eF]; rfl, ?_⟩))
    rw [eF]
    exact ((H.tl.tl.add (Below.refl _ _) (agI w.heap.size (fun _ => (zeroN, (none, 0)))) (fun _ _ => World.ownsRow_nil _ _ _ _) (fun j ⟨_, _, e⟩ => absurd e (fun e => nomatch e))).add (Below.refl _ _) (ownI _ _ _ _ _ _) (World.ownsRow_nil _ _ _ _) (fun j e => nomatch e))
  have hl : L.length ≤ 200 := by have := of_decide_eq_false h; omega
  refine c_fin ?_
  refine c_rs ?_
  refine qa ?_
  have hsz := H.size
  refine q_c1 (clBegin_ok t w2 ht) ?_
  rintro e w3 ⟨D0, rfl, hD0, G⟩
  refine ⟨_, rfl, ?_⟩
  replace H := agI_base (H.plus G) hsz
  refine q_al H ?_
  intro w4 H z4
  refine q_sp H.a0 stP_whole (clG_one _ _) ?_
  intro w5 H z5
  refine l_nx ?_
  refine c_rs ?_
  refine qa ?_
  refine l_nx ?_
  refine c_nx ?_
  refine c_rs ?_
  iterate 3 refine qa ?_
  refine l_nx ?_
  refine c_block ?_
  have z0 : (rK t L 0).c.fr = 0 ∧ (rK t L 0).e = 0 := by unfold rK; rw [List.take_zero]; exact ⟨rfl, rfl⟩
  have zc : ∀ i, (rK t L 0).c.nd i = begN (i : Nat) t := fun i => by unfold rK; rw [List.take_zero]; rfl
  have zr : (rK t L 0).r = [] := by unfold rK; rw [List.take_zero]; rfl
  refine c_loop (fun r A W => ∃ (k : Nat) (D : Nat → Nd × Ad) (v : Value), k ≤ L.length ∧ L.length - k ≤ r ∧ A.tmps.size = 44 ∧ A.defers = [] ∧ A.eval (.tmp 4) = .pointer (some ⟨w1.heap.size, 0, none⟩) ∧ A.eval (.tmp 7) = .pointer (some ⟨w3.heap.size, 0, none⟩) ∧ A.eval (.tmp 8) = v ∧ A.eval (.tmp 20) = .slice mo L.length mc ∧ A.eval (.tmp 21) = .int .i64 (L.length : Int) ∧ A.eval (.tmp 22) = .int .i64 (k : Int) ∧ (rK t L k).e = 0 ∧ (rK t L k).r.length ≤ 4 * k ∧ ClsOK (rK t L k).c ∧ (∀ i, i < 4 → (D i).1 = (rK t L k).c.nd i) ∧
      Cx w W [vhI 40 w3.heap.size 297 297 (clG (rK t L k).c.fr D), agI w.heap.size D, ownI w.heap.size 86 14 v (rK t L k).r.length (rwS rpF 14 (rK t L k).r), vhI 40 w1.heap.size 297 297 (clF 0 (fun _ => zeroN) (fun _ => slV (none, 0) 0))]) L.length
    ⟨0, D0, _, Nat.zero_le _, by omega, (szL _ _).trans hs, (defL _ _).trans hd, Qv, Qv, Qv, Qv, Qv, Qv, z0.2, by rw [zr]; exact Nat.zero_le _, by unfold rK; rw [List.take_zero]; exact begC_ok ht, fun i hi => (hD0 i hi).trans (zc i).symm, ?_⟩ (fun r B W hI => ?_)
  · rw [z0.1, zr]
    have H1 := H.sub (List.Sublist.cons_cons _ (List.Sublist.cons_cons _ (List.Sublist.cons_cons _ (List.nil_sublist _))))
    exact (H1.add (Below.refl _ _) (ownI w.heap.size 86 14 (.slice none 0 0) 0 []) (World.ownsRow_nil _ _ _ _) (fun j e => nomatch e)).b2
  clear b0 b1 hs hd H
  obtain ⟨k, D, v, hk, hrr, hs, hd, b4, b7, b8, b20, b21, b22, hE0, hrl, hcl, hD, H⟩ := hI
  refine c_rs (m_start ?_)
  repeat first | refine qa ?_ | refine l_nx ?_ | refine c_nx ?_
  refine q_if (fun h => ?_) (fun h => ?_)
  · have kn : k < L.length := by have := of_decide_eq_true h; omega
    have hc := List.getElem?_eq_getElem kn
    obtain ⟨cc, ec⟩ : ∃ cc, cc = L[k] := ⟨_, rfl⟩
    rw [← ec] at hc
    have hcc := hok cc (List.mem_of_getElem? hc)
    obtain ⟨pb, po, rfl, hcell⟩ := hr (by omega)
    have hcell := hcell k cc hc
    obtain ⟨s, es⟩ : ∃ s, s = rK t L k := ⟨_, rfl⟩
    have hsx := rK_succ (t := t) hc
    rw [← es] at hE0 hrl hcl hD H hsx
    obtain ⟨p1, p2, p3, p4⟩ := frC_congr (x := cc.x) (fr := s.c.fr) rfl hD
    have hcls : ClsOK ⟨s.c.fr, fun i => (D i).1⟩ := ⟨hcl.1, fun i hi => by show NdOK (D i).1; rw [hD i hi]; exact hcl.2 i hi⟩
    refine c_fin ?_
    refine c_nx (c_block ?_)
    refine c_rs ?_
    refine qg (run_ixSC _ _ _ _ rfl SlcK.out SizK.out Qv Qv rfl kn _) ?_
    refine qg (run_lodCs (g := inpF cc) ManyK.out (fun j hj => at_below (hcell j hj) H.bel) rfl Qv) ?_
    refine q_al H ?_
    intro w6 H z6
    refine q_sp H.a0 stP_whole (ipF_one _ _ _ _ _) ?_
    intro w7 H z7
    refine l_nx ?_
    refine c_rs ?_
    iterate 2 refine qa ?_
    have hag : ∀ i, i < 4 → AgRd w7 (D i).1 (D i).2.1 (D i).2.2 := fun i hi => by
      have ho : World.ownsRow _ _ _ _ _ _ _ := H.o2 i hi
      obtain ⟨a3, c3, e, hs3, _⟩ := owns_sr ho
      cases e
      exact hs3
    have hsz := H.size
    refine q_c2 (frame_ok cc.x s.c.fr D cc.lo cc.lc cc.LL _ rfl hcc.ip hcls hag (hcc.jr.below H.bel)) ?_
    rintro e w8 ⟨D', vr, rfl, hD', G⟩
    rw [p4] at G
    replace H := H.plus G
    refine ⟨_, rfl, ?_⟩
    refine qa ?_
    refine qg (run_ext3A _ rfl Qv _) ?_
    refine qg (run_ext3B _ rfl Qv _) ?_
    refine qg (run_ext3C _ rfl Qv _) ?_
    refine q_al H ?_
    intro w9 H z9
    refine q_sp H.a0 stP_whole (clG_one _ _) ?_
    intro w10 H z10
    iterate 2 refine qa ?_
    refine l_nx ?_
    refine c_nx ?_
    refine c_rs ?_
    refine qa ?_
    refine qg (run_neqE _ _ rfl Qv Qv rfl _) ?_
    refine l_nx ?_
    refine q_if (fun h => ?_) (fun h => ?_)
    · have hE : frE cc.x s.c ≠ 0 := by rw [← p1]; exact of_decide_eq_true h
      rw [rnS_no hE0 hE] at hsx
      have eF : rnF t (L.map Li.x) = ⟨zeroC, [], frE cc.x s.c⟩ := (rK_end hl (k := k + 1) (Or.inr (by rw [hsx]; exact hE))).trans hsx
      refine c_rs ?_
      refine qg (run_bldC0 rfl _) ?_
      refine qa ?_
      refine q_sp H.a7 stP_whole (clF_one _ _ _ _) ?_
      intro w11 H z11
      repeat first | refine qa ?_ | refine l_nx ?_
      refine c_ret (r_nx (r_bl (r_nx (r_th (r_bl (r_nx (ret_of ((defL _ _).trans hd) (res_ctt rfl Qv Qv Qv ManyK.out H.v7 (Nat.le_refl _)) ⟨fun _ => (zeroN, (none, 0)), _, by rw [eF]; rw [p1]; rfl, fun i hi => by rw [eF]; rfl, ?_⟩)))))))
      rw [eF]
      exact (((H.sub (List.nil_sublist _)).add (Below.refl _ _) (agI w.heap.size (fun _ => (zeroN, (none, 0)))) (fun _ _ => World.ownsRow_nil _ _ _ _) (fun j ⟨_, _, e⟩ => absurd e (fun e => nomatch e))).add (Below.refl _ _) (ownI _ _ _ _ _ _) (World.ownsRow_nil _ _ _ _) (fun j e => nomatch e))
    have hE : frE cc.x s.c = 0 := by
      have : decide (frE cc.x ⟨s.c.fr, fun i => (D i).1⟩ ≠ 0) = false := h
      rw [p1] at this
      simpa using this
    rw [rnS_ok hE0 hE] at hsx
    refine c_fin ?_
    replace H := H.drew
    have hvr : World.ownsRow _ _ _ _ _ _ _ := H.o1
    have hr4 := frR_len cc.x s.c
    have hS : (fun W' => Its [vhI 40 w8.heap.size 297 297 (clG (frC cc.x ⟨s.c.fr, fun i => (D i).1⟩).fr D')] W') w10.drew := Its.cons H.o0 (Its.nil _)
    refine c_rj (S := fun W' => Its [vhI 40 w8.heap.size 297 297 (clG (frC cc.x ⟨s.c.fr, fun i => (D i).1⟩).fr D')] W') (.rd 0 (.mv 1 (.mv 2 (.go 3 (.go 4 (.mv 5 .fin)))))) [4] (by kernel_rfl) (by kernel_rfl) ?_
    refine j_rd rfl rfl (fun _ _ _ h => h) (wanted_rd rfl) hS (fun _ H => run_loadP _ _ rfl ManyK.out Qv H.v0 (by omega)) ?_
    iterate 2 refine qj ?_
    refine j_do rfl rfl (wanted_rd rfl) (fun K hK => ?_)
    refine wp_joinA (bytes := 80) rfl inferInstance H.size Qv Qv H.o6 (rdc_own hvr) (rwS_one (fun x _ => rpP_one _ _)) (by unfold maxLen; omega) (by omega) ?_
    intro v11 w11 h11 k11 f11
    replace H := H.a6.put (y := (ownI w.heap.size 86 14 v11 (s.r.length + (frR cc.x s.c).length) (rwS rpF 14 s.r ++ rwS rpF 14 (frR cc.x s.c)))) ⟨k11.os, k11.tape, k11.output, k11.size, fun j h5 h6 => k11.block j h5 (fun e => h6 e.symm), h11, f11⟩
    refine hK _ _ (fun _ _ => Its.cons H.o0 (Its.nil _)) ?_
    clear hK K
    refine j_st rfl (wanted_rd rfl) (fun K hK => ?_)
    refine wp_storeP _ _ _ _ rfl ManyK.out Qv Qv H.v4 (by omega) (clG_one _ _) rfl ?_
    intro w12 m12 k12 z12
    replace H := H.a4.s k12 (m12.congr stP_whole)
    refine hK _ (fun h => absurd h (by decide)) ?_
    clear hK K hS
    refine qj ?_
    refine j_finB ?_
    refine c_region ?_
    repeat refine qa ?_
    refine l_round ⟨L.length - (k + 1), by omega, k + 1, D', _, by omega, by omega, (szL _ _).trans hs, (defL _ _).trans hd, Qv, Qv, Qv, Qv, Qv, Eq.trans Qv (by rw [Int.natCast_add]; rfl), by rw [hsx], ?_, ?_, ?_, ?_⟩
    · rw [hsx, List.length_append]; omega
    · rw [hsx]; exact frC_ok hcc.ip hcl
    · rw [hsx]; exact fun i hi => (hD' i hi).trans (p3 i hi)
    · rw [hsx]
      show Cx w _ [vhI _ _ 297 297 (clG (frC cc.x s.c).fr D'), _, ownI _ _ _ _ (s.r ++ frR cc.x s.c).length (rwS rpF 14 (s.r ++ frR cc.x s.c)), _]
      rw [List.length_append, rwS_app, ← p2]
      have H2 := agI_base H.f2 hsz
      exact H2.f4.sub (.cons_cons _ (.cons_cons _ (.cons _ (.cons _ (.cons _ (.cons _ (.cons_cons _ (.cons_cons _ (List.nil_sublist _)))))))))
  · have ek : k = L.length := by have := of_decide_eq_false h; omega
    have eF : rnF t (L.map Li.x) = rK t L k := rK_end hl (Or.inl (by omega))
    refine c_exit (x_out ?_)
    refine c_rs ?_
    iterate 2 refine qa ?_
    refine q_sp H.a3 stP_whole (clG_one _ _) ?_
    intro w6 H z6
    repeat first | refine qa ?_ | refine l_nx ?_
    refine c_ret (ret_of ((defL _ _).trans hd) (res_ctt rfl Qv Qv Qv ManyK.out H.v3 (Nat.le_refl _)) ⟨D, _, by rw [eF, hE0], by rw [eF]; exact hD, ?_⟩)
    rw [eF]
    exact H.tl.f1.sub (.cons_cons _ (.cons_cons _ (List.nil_sublist _)))

end Go.Proofs.YthimcecbgpamdaaGreat

namespace Go.Proofs.YthimcecbgpamdaaGreat
open Go.RowKit

set_option maxRecDepth 10000 in
set_option maxHeartbeats 4000000 in
theorem refRun_ok : RuC 13 := by
  intro t mo mc L w ht hr hok
  refine enterF Tryz.func13 rfl 45 rfl (of_decide_eq_true rfl) (fun A hs hd hb => ?_)
  have b0 : A.eval (.tmp 0) = agV (ntnF t) 0 4 := hb 0 _ rfl
  have b1 : A.eval (.tmp 1) = .slice mo L.length mc := hb 1 _ rfl
  clear hb
  have H := Cx.start w
  refine c_rs (m_start ?_)
  refine q_box H ?_
  clear H
  intro w1 H z1
  refine q_al H ?_
  clear H
  intro w2 H z2
  iterate 2 refine qa ?_
  refine l_nx ?_
  refine c_nx ?_
  refine c_rs ?_
  iterate 3 refine qa ?_
  refine l_nx ?_
  refine q_if (fun h => ?_) (fun h => ?_)
  · have hl : 200 < L.length := by have := of_decide_eq_true h; omega
    have eF : rnF t (L.map Li.x) = ⟨zeroC, [], 6⟩ := by unfold rnF; rw [if_pos (by rw [List.length_map]; exact hl)]
    refine c_rs ?_
    refine qg (run_bldC0 rfl _) ?_
    refine q_sp H.a0 stP_whole (clF_one _ _ _ _) ?_
    clear H
    intro w3 H z3
    iterate 2 refine qa ?_
    refine l_nx ?_
    refine c_ret (r_nx (ret_of ((defL _ _).trans hd) (res_ctt rfl Qv Qv Qv ManyK.out H.v0 (Nat.le_refl _)) ⟨fun _ => (zeroN, (none, 0)), _, by rw [eF]; rfl, fun i hi => by rw [eF]; rfl, ?_⟩))
    rw [eF]
    exact ((H.tl.tl.add (Below.refl _ _) (agI w.heap.size (fun _ => (zeroN, (none, 0)))) (fun _ _ => World.ownsRow_nil _ _ _ _) (fun j ⟨_, _, e⟩ => absurd e (fun e => nomatch e))).add (Below.refl _ _) (ownI _ _ _ _ _ _) (World.ownsRow_nil _ _ _ _) (fun j e => nomatch e))
  have hl : L.length ≤ 200 := by have := of_decide_eq_false h; omega
  refine c_fin ?_
  refine c_rs ?_
  refine qa ?_
  have hsz := H.size
  refine q_c1 (refBeginCluster_ok t w2 ht) ?_
  rintro e w3 ⟨D0, rfl, hD0, G⟩
  refine ⟨_, rfl, ?_⟩
  replace H := agI_base (H.plus G) hsz
  refine q_al H ?_
  clear H
  intro w4 H z4
  refine q_sp H.a0 stP_whole (clG_one _ _) ?_
  clear H
  intro w5 H z5
  refine l_nx ?_
  refine c_rs ?_
  refine qa ?_
  refine l_nx ?_
  refine c_nx ?_
  refine c_rs ?_
  iterate 3 refine qa ?_
  refine l_nx ?_
  refine c_block ?_
  have z0 : (rK t L 0).c.fr = 0 ∧ (rK t L 0).e = 0 := by unfold rK; rw [List.take_zero]; exact ⟨rfl, rfl⟩
  have zc : ∀ i, (rK t L 0).c.nd i = begN (i : Nat) t := fun i => by unfold rK; rw [List.take_zero]; rfl
  have zr : (rK t L 0).r = [] := by unfold rK; rw [List.take_zero]; rfl
  refine c_loop (fun r A W => ∃ (k : Nat) (D : Nat → Nd × Ad) (v : Value), k ≤ L.length ∧ L.length - k ≤ r ∧ A.tmps.size = 45 ∧ A.defers = [] ∧ A.eval (.tmp 1) = .slice mo L.length mc ∧ A.eval (.tmp 4) = .pointer (some ⟨w1.heap.size, 0, none⟩) ∧ A.eval (.tmp 7) = .pointer (some ⟨w3.heap.size, 0, none⟩) ∧ A.eval (.tmp 8) = v ∧ A.eval (.tmp 20) = .int .i64 (L.length : Int) ∧ A.eval (.tmp 21) = .int .i64 (k : Int) ∧ (rK t L k).e = 0 ∧ (rK t L k).r.length ≤ 4 * k ∧ ClsOK (rK t L k).c ∧ (∀ i, i < 4 → (D i).1 = (rK t L k).c.nd i) ∧
      Cx w W [vhI 40 w3.heap.size 297 297 (clG (rK t L k).c.fr D), agI w.heap.size D, ownI w.heap.size 86 14 v (rK t L k).r.length (rwS rpF 14 (rK t L k).r), vhI 40 w1.heap.size 297 297 (clF 0 (fun _ => zeroN) (fun _ => slV (none, 0) 0))]) L.length
    ⟨0, D0, _, Nat.zero_le _, by omega, (szL _ _).trans hs, (defL _ _).trans hd, Qv, Qv, Qv, Qv, Qv, Qv, z0.2, by rw [zr]; exact Nat.zero_le _, by unfold rK; rw [List.take_zero]; exact begC_ok ht, fun i hi => (hD0 i hi).trans (zc i).symm, ?_⟩ (fun r B W hI => ?_)
  · rw [z0.1, zr]
    have H1 := H.sub (List.Sublist.cons_cons _ (List.Sublist.cons_cons _ (List.Sublist.cons_cons _ (List.nil_sublist _))))
    exact (H1.add (Below.refl _ _) (ownI w.heap.size 86 14 (.slice none 0 0) 0 []) (World.ownsRow_nil _ _ _ _) (fun j e => nomatch e)).b2
  clear b0 b1 hs hd H
  obtain ⟨k, D, v, hk, hrr, hs, hd, b1, b4, b7, b8, b20, b21, hE0, hrl, hcl, hD, H⟩ := hI
  refine c_rs (m_start ?_)
  refine qa ?_
  refine l_nx ?_
  refine c_nx ?_
  refine q_if (fun h => ?_) (fun h => ?_)
  · have kn : k < L.length := by have := of_decide_eq_true h; omega
    have hc := List.getElem?_eq_getElem kn
    obtain ⟨cc, ec⟩ : ∃ cc, cc = L[k] := ⟨_, rfl⟩
    rw [← ec] at hc
    have hcc := hok cc (List.mem_of_getElem? hc)
    obtain ⟨pb, po, rfl, hcell⟩ := hr (by omega)
    have hcell := hcell k cc hc
    obtain ⟨s, es⟩ : ∃ s, s = rK t L k := ⟨_, rfl⟩
    have hsx := rK_succ (t := t) hc
    rw [← es] at hE0 hrl hcl hD H hsx
    obtain ⟨p1, p2, p3, p4⟩ := frC_congr (x := cc.x) (fr := s.c.fr) rfl hD
    have hcls : ClsOK ⟨s.c.fr, fun i => (D i).1⟩ := ⟨hcl.1, fun i hi => by show NdOK (D i).1; rw [hD i hi]; exact hcl.2 i hi⟩
    refine c_fin ?_
    refine c_nx (c_block ?_)
    refine c_rs ?_
    iterate 2 refine qa ?_
    refine l_nx ?_
    replace H := H.drew
    have hag : ∀ i, i < 4 → AgRd W.drew (D i).1 (D i).2.1 (D i).2.2 := fun i hi => by
      have ho : World.ownsRow _ _ _ _ _ _ _ := H.o1 i hi
      obtain ⟨a3, c3, e, hs3, _⟩ := owns_sr ho
      cases e
      exact hs3
    have hFr : ∀ U, Below W.drew.heap.size W.drew U → Calls Tryz.prog 8 #[agV (clG s.c.fr D) 0 297, agV (inpF cc) 0 14] U _ := fun U kU => refFrame_ok cc.x s.c.fr D cc.lo cc.lc cc.LL U rfl hcc.ip hcls (fun i hi => Sr.below (hag i hi) kU) (hcc.jr.below (H.call kU).bel)
    have hc7 : ∀ q, q < 297 → W.drew.cell? ⟨w3.heap.size, 0 + q, none⟩ = some (clG s.c.fr D q) := fun q hq => H.v0.cellz hq
    have hS : (fun W' => Below W.drew.heap.size W.drew W') W.drew := Below.refl _ _
    have hszW := H.size
    refine c_midS (fun A W' => ∃ (b10 : Nat) (D' : Nat → Nd × Ad) (vr : Value), A.tmps.size = 45 ∧ A.defers = [] ∧ A.eval (.tmp 1) = .slice (some ⟨pb, po, none⟩) L.length mc ∧ A.eval (.tmp 4) = .pointer (some ⟨w1.heap.size, 0, none⟩) ∧ A.eval (.tmp 7) = .pointer (some ⟨w3.heap.size, 0, none⟩) ∧ A.eval (.tmp 8) = v ∧ A.eval (.tmp 20) = .int .i64 (L.length : Int) ∧ A.eval (.tmp 21) = .int .i64 (k : Int) ∧ A.eval (.tmp 10) = .pointer (some ⟨b10, 0, none⟩) ∧ A.eval (.tmp 11) = vr ∧ A.eval (.tmp 12) = .int .i64 (frE cc.x s.c) ∧ (∀ i, i < 4 → (D' i).1 = (frC cc.x s.c).nd i) ∧
      Cx w W' [vhI 40 b10 297 297 (clG (frC cc.x s.c).fr D'), ownI w.heap.size 86 14 vr (frR cc.x s.c).length (rwS rpF 14 (frR cc.x s.c)), agI w.heap.size D', vhI 40 w3.heap.size 297 297 (clG s.c.fr D), agI w.heap.size D, ownI w.heap.size 86 14 v s.r.length (rwS rpF 14 s.r), vhI 40 w1.heap.size 297 297 (clF 0 (fun _ => zeroN) (fun _ => slV (none, 0) 0))]) (fun hT => ?_) (fun A V hT => ?_)
    · refine c_rj (S := fun W' => Below W.drew.heap.size W.drew W') (.rd 0 (.mv 1 (.mv 2 (.mv 3 (.rd 4 (.two 5 10 (.mv 6 (.mv 7 (.mv 8 (.mv 9 (.go 10 (.go 11 (.mv 12 (.mv 13 .fin)))))))) (.go 5 (.mv 6 (.mv 7 (.mv 8 (.mv 9 (.go 11 (.mv 12 (.mv 13 .fin)))))))))))))) [] (by kernel_rfl) (by kernel_rfl) ?_
      refine j_rd rfl rfl (fun _ _ _ h => h) (wanted_rd rfl) hS (fun _ H => run_lodCs (g := clG s.c.fr D) ManyK.out (fun q hq => at_below (hc7 q hq) H) rfl Qv) ?_
      iterate 2 refine qj ?_
      refine j_mv rfl rfl (fun _ _ _ h => h) (wanted_rd rfl) (fun w => run_ixSC _ _ _ _ rfl SlcK.out SizK.out Qv Qv rfl kn w) ?_
      refine j_rd rfl rfl (fun _ _ _ h => h) (wanted_rd rfl) hS (fun _ K => run_lodCs (g := inpF cc) ManyK.out (fun j hj => at_below (at_below (hcell j hj) H.bel) K) rfl Qv) ?_
      refine sJ_cut (r := .go 11 (.mv 12 (.mv 13 .fin))) (fun A W' => ∃ (b10 : Nat) (D' : Nat → Nd × Ad) (vr : Value), A.tmps.size = 45 ∧ A.defers = [] ∧ A.eval (.tmp 1) = .slice (some ⟨pb, po, none⟩) L.length mc ∧ A.eval (.tmp 4) = .pointer (some ⟨w1.heap.size, 0, none⟩) ∧ A.eval (.tmp 7) = .pointer (some ⟨w3.heap.size, 0, none⟩) ∧ A.eval (.tmp 8) = v ∧ A.eval (.tmp 20) = .int .i64 (L.length : Int) ∧ A.eval (.tmp 21) = .int .i64 (k : Int) ∧ A.eval (.tmp 10) = .pointer (some ⟨b10, 0, none⟩) ∧ A.eval (.tmp 31) = agV (clG (frC cc.x s.c).fr D') 0 297 ∧ A.eval (.tmp 32) = vr ∧ A.eval (.tmp 33) = .int .i64 (frE cc.x s.c) ∧ (∀ i, i < 4 → (D' i).1 = (frC cc.x s.c).nd i) ∧ W.drew.heap.size ≤ b10 ∧ Below W.drew.heap.size W.drew W' ∧
        Cx w W' [vhI 40 b10 297 297 (clF 0 (fun _ => zeroN) (fun _ => slV (none, 0) 0)), ownI w.heap.size 86 14 vr (frR cc.x s.c).length (rwS rpF 14 (frR cc.x s.c)), agI w.heap.size D', vhI 40 w3.heap.size 297 297 (clG s.c.fr D), agI w.heap.size D, ownI w.heap.size 86 14 v s.r.length (rwS rpF 14 s.r), vhI 40 w1.heap.size 297 297 (clF 0 (fun _ => zeroN) (fun _ => slV (none, 0) 0))]) (fun A U hT' => ?_) (fun hT' => ?_)
      · clear b1 b4 b7 b8 b20 b21 hs hd H hS
        obtain ⟨b10, D', vr, hs, hd, b1, b4, b7, b8, b20, b21, b10', b31, b32, b33, hD', hb10, kU, H⟩ := hT'
        refine j_start ?_
        refine j_st rfl (wanted_rd rfl) (fun K0 hK => ?_)
        refine wp_storeP _ _ _ _ rfl ManyK.out Qv Qv H.v0 (by omega) (clG_one _ _) rfl ?_
        intro U2 m2 k2 z2'
        replace H := H.a0.s k2 (m2.congr stP_whole)
        refine hK _ (fun _ _ => below_of_kept kU k2 hb10 kU.size) ?_
        clear hK K0
        iterate 2 refine qj ?_
        exact j_nx (hT _ _ ⟨b10, D', vr, (szL _ _).trans hs, (defL _ _).trans hd, Qv, Qv, Qv, Qv, Qv, Qv, Qv, Qv, Qv, hD', H⟩)
      refine j_two ?_ ?_
      · refine j_do rfl rfl (wanted_rd rfl) (fun K0 hK => ?_)
        refine wp_call2 _ _ _ _ _ rfl Qv Qv (EntK.out _ _) (hFr _ (Below.refl _ _)) ?_
        rintro e U ⟨D', vr, rfl, hD', G⟩
        have kG := G.bel
        rw [p4] at G
        rw [p1, p2]
        refine ⟨_, rfl, hK _ _ (fun _ h => h.trans (kG.mono h.size)) ?_⟩
        clear hK K0
        replace H := ownI_base (agI_base (H.plus G).f1 hszW).f1 hszW
        refine qj ?_
        refine j_mv rfl rfl (fun _ _ _ h => h) (wanted_rd rfl) (fun w => run_ext3A _ rfl Qv w) ?_
        refine j_mv rfl rfl (fun _ _ _ h => h) (wanted_rd rfl) (fun w => run_ext3B _ rfl Qv w) ?_
        refine j_mv rfl rfl (fun _ _ _ h => h) (wanted_rd rfl) (fun w => run_ext3C _ rfl Qv w) ?_
        refine j_do rfl rfl (wanted_rd rfl) (fun K0 hK => ?_)
        refine wp_allocG _ _ rfl ZerK.out (of_decide_eq_true rfl) ?_
        intro U1 m1 k1 z1'
        refine hK _ _ (fun _ h => h.trans (k1.mono h.size)) ?_
        clear hK K0
        replace H := H.add k1 (vhI _ _ _ _ _) m1 (fun j (e : j = _) => Nat.le_of_eq e.symm)
        exact hT' _ _ ⟨_, D', vr, (szL _ _).trans hs, (defL _ _).trans hd, Qv, Qv, Qv, Qv, Qv, Qv, Qv, Qv, Qv, Qv, fun i hi => (hD' i hi).trans (p3 i hi), kG.size, kG.trans (k1.mono kG.size), H⟩
      · refine j_do rfl rfl (wanted_rd rfl) (fun K0 hK => ?_)
        refine wp_allocG _ _ rfl ZerK.out (of_decide_eq_true rfl) ?_
        intro U1 m1 k1 z1'
        refine hK _ _ (fun _ h => h.trans (k1.mono h.size)) ?_
        clear hK K0
        replace H := H.add k1 (vhI _ _ _ _ _) m1 (fun j (e : j = _) => Nat.le_of_eq e.symm)
        have hsz1 := k1.size
        refine j_do rfl rfl (wanted_rd rfl) (fun K0 hK => ?_)
        refine wp_call2 _ _ _ _ _ rfl Qv Qv (EntK.out _ _) (hFr _ k1) ?_
        rintro e U ⟨D', vr, rfl, hD', G⟩
        have kG := G.bel
        rw [p4] at G
        rw [p1, p2]
        refine ⟨_, rfl, hK _ _ (fun _ h => h.trans (kG.mono h.size)) ?_⟩
        clear hK K0
        replace H := ownI_base (agI_base (H.plus G).f1 (Nat.le_trans hszW hsz1)).f1 (Nat.le_trans hszW hsz1)
        refine qj ?_
        refine j_mv rfl rfl (fun _ _ _ h => h) (wanted_rd rfl) (fun w => run_ext3A _ rfl Qv w) ?_
        refine j_mv rfl rfl (fun _ _ _ h => h) (wanted_rd rfl) (fun w => run_ext3B _ rfl Qv w) ?_
        refine j_mv rfl rfl (fun _ _ _ h => h) (wanted_rd rfl) (fun w => run_ext3C _ rfl Qv w) ?_
        exact hT' _ _ ⟨_, D', vr, (szL _ _).trans hs, (defL _ _).trans hd, Qv, Qv, Qv, Qv, Qv, Qv, Qv, Qv, Qv, Qv, fun i hi => (hD' i hi).trans (p3 i hi), Nat.le_refl _, k1.trans (kG.mono k1.size), H.f2⟩
    clear b1 b4 b7 b8 b20 b21 hs hd H hS hFr hag hc7
    obtain ⟨b10, D', vr, hs, hd, b1, b4, b7, b8, b20, b21, b10', b11, b12, hD', H⟩ := hT
    refine c_nx ?_
    refine c_rs (m_start ?_)
    refine qa ?_
    refine qg (run_neqE _ _ rfl Qv Qv rfl _) ?_
    refine l_nx ?_
    refine q_if (fun h => ?_) (fun h => ?_)
    · have hE : frE cc.x s.c ≠ 0 := of_decide_eq_true h
      rw [rnS_no hE0 hE] at hsx
      have eF : rnF t (L.map Li.x) = ⟨zeroC, [], frE cc.x s.c⟩ := (rK_end hl (k := k + 1) (Or.inr (by rw [hsx]; exact hE))).trans hsx
      refine c_rs ?_
      refine qg (run_bldC0 rfl _) ?_
      refine qa ?_
      refine q_sp H.a6 stP_whole (clF_one _ _ _ _) ?_
      clear H
      intro w11 H z11
      iterate 2 refine qa ?_
      refine l_nx ?_
      refine c_ret (r_nx (r_bl (r_nx (r_th (r_bl (r_nx (ret_of ((defL _ _).trans hd) (res_ctt rfl Qv Qv Qv ManyK.out H.v6 (Nat.le_refl _)) ⟨fun _ => (zeroN, (none, 0)), _, by rw [eF]; rfl, fun i hi => by rw [eF]; rfl, ?_⟩)))))))
      rw [eF]
      exact (((H.sub (List.nil_sublist _)).add (Below.refl _ _) (agI w.heap.size (fun _ => (zeroN, (none, 0)))) (fun _ _ => World.ownsRow_nil _ _ _ _) (fun j ⟨_, _, e⟩ => absurd e (fun e => nomatch e))).add (Below.refl _ _) (ownI _ _ _ _ _ _) (World.ownsRow_nil _ _ _ _) (fun j e => nomatch e))
    have hE : frE cc.x s.c = 0 := by simpa using h
    rw [rnS_ok hE0 hE] at hsx
    refine c_fin ?_
    replace H := H.drew
    have hvr : World.ownsRow _ _ _ _ _ _ _ := H.o1
    have hr4 := frR_len cc.x s.c
    have hS : (fun W' => Its [vhI 40 b10 297 297 (clG (frC cc.x s.c).fr D')] W') V.drew := Its.cons H.o0 (Its.nil _)
    refine c_rj (S := fun W' => Its [vhI 40 b10 297 297 (clG (frC cc.x s.c).fr D')] W') (.rd 0 (.mv 1 (.mv 2 (.go 3 (.go 4 (.mv 5 .fin)))))) [4] (by kernel_rfl) (by kernel_rfl) ?_
    refine j_rd rfl rfl (fun _ _ _ h => h) (wanted_rd rfl) hS (fun _ H => run_loadP _ _ rfl ManyK.out Qv H.v0 (by omega)) ?_
    iterate 2 refine qj ?_
    refine j_do rfl rfl (wanted_rd rfl) (fun K hK => ?_)
    refine wp_joinA (bytes := 80) rfl inferInstance H.size Qv Qv H.o5 (rdc_own hvr) (rwS_one (fun x _ => rpP_one _ _)) (by unfold maxLen; omega) (by omega) ?_
    intro v11 w11 h11 k11 f11
    replace H := H.a5.put (y := (ownI w.heap.size 86 14 v11 (s.r.length + (frR cc.x s.c).length) (rwS rpF 14 s.r ++ rwS rpF 14 (frR cc.x s.c)))) ⟨k11.os, k11.tape, k11.output, k11.size, fun j h5 h6 => k11.block j h5 (fun e => h6 e.symm), h11, f11⟩
    refine hK _ _ (fun _ _ => Its.cons H.o0 (Its.nil _)) ?_
    clear hK K
    refine j_st rfl (wanted_rd rfl) (fun K hK => ?_)
    refine wp_storeP _ _ _ _ rfl ManyK.out Qv Qv H.v3 (by omega) (clG_one _ _) rfl ?_
    intro w12 m12 k12 z12
    replace H := H.a3.s k12 (m12.congr stP_whole)
    refine hK _ (fun h => absurd h (by decide)) ?_
    clear hK K hS
    refine qj ?_
    refine j_finB ?_
    refine c_region ?_
    repeat refine qa ?_
    refine l_round ⟨L.length - (k + 1), by omega, k + 1, D', _, by omega, by omega, (szL _ _).trans hs, (defL _ _).trans hd, Qv, Qv, Qv, Qv, Qv, Eq.trans Qv (by rw [Int.natCast_add]; rfl), by rw [hsx], ?_, ?_, ?_, ?_⟩
    · rw [hsx, List.length_append]; omega
    · rw [hsx]; exact frC_ok hcc.ip hcl
    · rw [hsx]; exact hD'
    · rw [hsx]
      show Cx w _ [vhI _ _ 297 297 (clG (frC cc.x s.c).fr D'), _, ownI _ _ _ _ (s.r ++ frR cc.x s.c).length (rwS rpF 14 (s.r ++ frR cc.x s.c)), _]
      rw [List.length_append, rwS_app]
      exact H.f2.f3.sub (.cons_cons _ (.cons_cons _ (.cons _ (.cons _ (.cons _ (.cons_cons _ (.cons_cons _ (List.nil_sublist _))))))))
  · have ek : k = L.length := by have := of_decide_eq_false h; omega
    have eF : rnF t (L.map Li.x) = rK t L k := rK_end hl (Or.inl (by omega))
    refine c_exit (x_out ?_)
    refine c_rs ?_
    iterate 2 refine qa ?_
    refine q_sp H.a3 stP_whole (clG_one _ _) ?_
    clear H
    intro w6 H z6
    iterate 2 refine qa ?_
    refine l_nx ?_
    refine c_ret (ret_of ((defL _ _).trans hd) (res_ctt rfl Qv Qv Qv ManyK.out H.v3 (Nat.le_refl _)) ⟨D, _, by rw [eF, hE0], by rw [eF]; exact hD, ?_⟩)
    rw [eF]
    exact H.tl.f1.sub (.cons_cons _ (.cons_cons _ (List.nil_sublist _)))

end Go.Proofs.YthimcecbgpamdaaGreat

namespace Go.Proofs.YthimcecbgpamdaaGreat
open Go.RowKit

set_option maxRecDepth 100000 in
theorem run_neqI3N {f : Operand → Value} {o : Oper} (x y : Operand) (ho : o.op = .binOp .neq 31 x y 31) {g : Nat → Int} (hx : f x = agV (fun j => iV (g j)) 0 3) (hy : f y = agV (fun j => iV (g j)) 0 3) (w : World) : (execOp f o).run Tryz.prog w = .ok (.value (.bool false)) w := by
  have hx' : f x = .agg #[.int .i64 (g 0), .int .i64 (g 1), .int .i64 (g 2)] := hx
  have hy' : f y = .agg #[.int .i64 (g 0), .int .i64 (g 1), .int .i64 (g 2)] := hy
  clear hx hy
  have h0 := run_eqI3 9998 g w
  unfold execOp
  rw [ho]
  dsimp only
  rw [hx', hy']
  go_simp
set_option maxRecDepth 100000 in
theorem run_neqSt3N {f : Operand → Value} {o : Oper} (x y : Operand) (ho : o.op = .binOp .neq 26 x y 26) {a : Nat → St} (hx : f x = agV (fun j => nstF (a (j / 7)) (j % 7)) 0 21) (hy : f y = agV (fun j => nstF (a (j / 7)) (j % 7)) 0 21) (w : World) : (execOp f o).run Tryz.prog w = .ok (.value (.bool false)) w := by
  have hx' : f x = .agg #[.int .i64 (a 0).X, .int .i64 (a 0).V, .int .i64 (a 0).P00, .int .i64 (a 0).P01, .int .i64 (a 0).P11, .bool (a 0).B, .int .i64 (a 0).M, .int .i64 (a 1).X, .int .i64 (a 1).V, .int .i64 (a 1).P00, .int .i64 (a 1).P01, .int .i64 (a 1).P11, .bool (a 1).B, .int .i64 (a 1).M, .int .i64 (a 2).X, .int .i64 (a 2).V, .int .i64 (a 2).P00, .int .i64 (a 2).P01, .int .i64 (a 2).P11, .bool (a 2).B, .int .i64 (a 2).M] := hx
  have hy' : f y = .agg #[.int .i64 (a 0).X, .int .i64 (a 0).V, .int .i64 (a 0).P00, .int .i64 (a 0).P01, .int .i64 (a 0).P11, .bool (a 0).B, .int .i64 (a 0).M, .int .i64 (a 1).X, .int .i64 (a 1).V, .int .i64 (a 1).P00, .int .i64 (a 1).P01, .int .i64 (a 1).P11, .bool (a 1).B, .int .i64 (a 1).M, .int .i64 (a 2).X, .int .i64 (a 2).V, .int .i64 (a 2).P00, .int .i64 (a 2).P01, .int .i64 (a 2).P11, .bool (a 2).B, .int .i64 (a 2).M] := hy
  clear hx hy
  have h0 := run_eqlSt3A a w
  unfold execOp
  rw [ho]
  dsimp only
  rw [hx', hy']
  go_simp
set_option maxRecDepth 100000 in
theorem run_neq43N {f : Operand → Value} {o : Oper} (x y : Operand) (ho : o.op = .binOp .neq 32 x y 32) {g : Nat → Nat → Int} (hx : f x = agV (fun j => iV (g (j / 3) (j % 3))) 0 12) (hy : f y = agV (fun j => iV (g (j / 3) (j % 3))) 0 12) (w : World) : (execOp f o).run Tryz.prog w = .ok (.value (.bool false)) w := by
  have hx' : f x = .agg #[.int .i64 (g 0 0), .int .i64 (g 0 1), .int .i64 (g 0 2), .int .i64 (g 1 0), .int .i64 (g 1 1), .int .i64 (g 1 2), .int .i64 (g 2 0), .int .i64 (g 2 1), .int .i64 (g 2 2), .int .i64 (g 3 0), .int .i64 (g 3 1), .int .i64 (g 3 2)] := hx
  have hy' : f y = .agg #[.int .i64 (g 0 0), .int .i64 (g 0 1), .int .i64 (g 0 2), .int .i64 (g 1 0), .int .i64 (g 1 1), .int .i64 (g 1 2), .int .i64 (g 2 0), .int .i64 (g 2 1), .int .i64 (g 2 2), .int .i64 (g 3 0), .int .i64 (g 3 1), .int .i64 (g 3 2)] := hy
  clear hx hy
  have h0 := run_eql43A g w
  unfold execOp
  rw [ho]
  dsimp only
  rw [hx', hy']
  go_simp
set_option maxRecDepth 100000 in
theorem run_neqRlN {f : Operand → Value} {o : Oper} (x y : Operand) (ho : o.op = .binOp .neq 30 x y 30) {r : Rl} (hx : f x = rollV r) (hy : f y = rollV r) (w : World) :
    (execOp f o).run Tryz.prog w = .ok (.value (.bool false)) w := by
  have h0 : (Op.equalIn 9999 27 (.agg #[.bool (r.I 0), .bool (r.I 1), .bool (r.I 2), .bool (r.I 3)]) (.agg #[.bool (r.I 0), .bool (r.I 1), .bool (r.I 2), .bool (r.I 3)])).run Tryz.prog w = .ok true w := run_eqB4 9997 (r.I 0) (r.I 1) (r.I 2) (r.I 3) w
  have h1 : (Op.equalIn 9999 28 (.agg #[.int .i64 (r.M 0), .int .i64 (r.M 1), .int .i64 (r.M 2), .int .i64 (r.M 3)]) (.agg #[.int .i64 (r.M 0), .int .i64 (r.M 1), .int .i64 (r.M 2), .int .i64 (r.M 3)])).run Tryz.prog w = .ok true w := run_eqI4 9997 (r.M 0) (r.M 1) (r.M 2) (r.M 3) w
  have h2 : (Op.equalIn 9999 28 (.agg #[.int .i64 (r.J 0), .int .i64 (r.J 1), .int .i64 (r.J 2), .int .i64 (r.J 3)]) (.agg #[.int .i64 (r.J 0), .int .i64 (r.J 1), .int .i64 (r.J 2), .int .i64 (r.J 3)])).run Tryz.prog w = .ok true w := run_eqI4 9997 (r.J 0) (r.J 1) (r.J 2) (r.J 3) w
  unfold rollV at hx hy
  unfold execOp
  rw [ho]
  dsimp only
  rw [hx, hy]
  go_simp

theorem run_neqTT {f : Operand → Value} {o : Oper} (x y : Operand) (ho : o.op = .binOp .neq 4 x y 4) {u v : Bool} (hx : f x = .bool u) (hy : f y = .bool v) (hb : u = v) (w : World) : (execOp f o).run Tryz.prog w = .ok (.value (.bool false)) w := by
  subst hb
  unfold execOp
  rw [ho]
  dsimp only
  rw [hx, hy]
  cases u <;> (change _ = _; kernel_rfl)
theorem run_ixTb {f : Operand → Value} {o : Oper} (x y : Operand) (ho : o.op = .indexAddr 33 x y) {a : Addr} {n cap i : Nat} {z : Int} (hx : f x = .slice (some a) n cap) (hy : f y = .int .i64 z) (hz : z = (i : Int)) (hi : i < n) (w : World) : (execOp f o).run Tryz.prog w = .ok (.value (.pointer (some (a.add i)))) w := by
  subst hz
  have hi2 : (i : Int) < n := by omega
  unfold execOp
  rw [ho]
  dsimp only
  rw [hx, hy]
  go_simp

end Go.Proofs.YthimcecbgpamdaaGreat

namespace Go.Proofs.YthimcecbgpamdaaGreat
open Go.RowKit

def t1 : Tn := ⟨4294967296, 0, 4294967296, 429496729600⟩
def rdA1 (_ a : Nat) : Int := if a = 0 then 4294967296 else 0
def x1 : Ip := ⟨rdA1, -1, []⟩
theorem t1_ok : t1.Ok := ⟨by unfold R64 t1; decide, by unfold R64 t1; decide, by unfold R64 t1; decide, by unfold R64 t1; decide⟩
theorem x1_ok : IpOK x1 := ⟨fun s a => by show R64 (rdA1 s a); unfold rdA1; split <;> (unfold R64; decide), by unfold R64 x1; decide, fun y hy => by cases hy⟩
theorem hE1 : frE x1 (begC t1) = 0 := frE_zero (by unfold x1; decide) (show (0 : Int) ≤ 0 ∧ (0 : Int) ≤ 1073741823 by decide) (Nat.zero_le _) (fun i hi => (begC_inv t1 (-1)).id i hi)
theorem frR1 : frR x1 (begC t1) = [frN x1 (begC t1) 0, frN x1 (begC t1) 1, frN x1 (begC t1) 2, frN x1 (begC t1) 3] := by
  unfold frR
  rw [if_pos hE1]
  rfl
theorem al_strong : (frN x1 (begC t1) 3).vS = true := by
  have h := begC_inv t1 (-1)
  rw [fr_good h rfl hE1 (by decide) (by decide)]
  exact (jud_three hE1 (by decide) (by decide) (vt_all h rfl hE1 (by decide) (by decide))).2.1
theorem al_us {i : Nat} (hi : i < 4) : (frN x1 (begC t1) i).us 0 = 4294967296 := by
  have h := us_within (begC_inv t1 (-1)) rfl hE1 hi (by omega) (show 0 < 3 by decide) (lo := 4294967296) (hi' := 4294967296) (fun s _ _ => ⟨Int.le_refl _, Int.le_refl _⟩)
  omega
theorem al_used : (frN x1 (begC t1) 2).us 0 = 4294967296 := al_us (by decide)
theorem al_used1 : (frN x1 (begC t1) 1).us 0 = 4294967296 := al_us (by decide)
theorem al_place : 0 < ((frN x1 (begC t1) 1).ax 0).X := by
  rw [ax_follow (begC_inv t1 (-1)) rfl hE1 (by decide) (by decide), al_used1]
  show 0 < (stepS ((begN ((1 : Nat) : Int) t1).ax 0) t1 4294967296).X
  rw [begN_at t1 (by decide)]
  decide +kernel
section
variable {f : Operand → Value} {o : Oper}
theorem run_bldT1 (ho : o.op = .build 23 #[(0, .const (.int .i64 4294967296)), (2, .const (.int .i64 4294967296)), (3, .const (.int .i64 429496729600))]) (hc : ∀ v, f (.const v) = v) (w : World) : (execOp f o).run Tryz.prog w = .ok (.value (agV (ntnF t1) 0 4)) w := by
  unfold execOp
  rw [ho]
  simp only [List.map_toArray, List.map_cons, List.map_nil, hc]
  kernel_rfl
theorem run_bldR1 (ho : o.op = .build 31 #[(0, .const (.int .i64 4294967296))]) (hc : ∀ v, f (.const v) = v) (w : World) : (execOp f o).run Tryz.prog w = .ok (.value (agV (fun j => iV (rdA1 0 j)) 0 3)) w := by
  unfold execOp
  rw [ho]
  simp only [List.map_toArray, List.map_cons, List.map_nil, hc]
  kernel_rfl
theorem run_bldR4 {a b c d : Operand} (ho : o.op = .build 32 #[(0, a), (1, b), (2, c), (3, d)]) (ha : f a = agV (fun j => iV (rdA1 0 j)) 0 3) (hb : f b = agV (fun j => iV (rdA1 0 j)) 0 3) (hc : f c = agV (fun j => iV (rdA1 0 j)) 0 3) (hd : f d = agV (fun j => iV (rdA1 0 j)) 0 3) (w : World) : (execOp f o).run Tryz.prog w = .ok (.value (agV (rd4F rdA1) 0 12)) w := by
  unfold execOp
  rw [ho]
  simp only [List.map_toArray, List.map_cons, List.map_nil, ha, hb, hc, hd]
  kernel_rfl
theorem run_bldIn {a : Operand} (ho : o.op = .build 43 #[(0, a), (1, .const (.int .i64 (-1)))]) (ha : f a = agV (rd4F rdA1) 0 12) (hc : ∀ v, f (.const v) = v) (w : World) : (execOp f o).run Tryz.prog w = .ok (.value (agV (ipF rdA1 (-1) (.slice none 0 0)) 0 14)) w := by
  unfold execOp
  rw [ho]
  simp only [List.map_toArray, List.map_cons, List.map_nil, ha, hc]
  kernel_rfl
end

end Go.Proofs.YthimcecbgpamdaaGreat

namespace Go.Proofs.YthimcecbgpamdaaGreat
open Go.RowKit

theorem rpF2 (n : Nd) : rpF n 2 = .int .i64 (n.us 0) := rfl
theorem rpF5 (n : Nd) : rpF n 5 = .int .i64 (n.ax 0).X := rfl
theorem rpF9 (n : Nd) : rpF n 9 = .bool n.vS := rfl
end Go.Proofs.YthimcecbgpamdaaGreat

namespace Go.Proofs.YthimcecbgpamdaaGreat
open Go.RowKit

/-- All inputs have the same bad one. -/
def OneB (bad : Int) (L : List Li) : Prop := ∀ c, c ∈ L → c.bad = bad
theorem run_inv {t : Tn} {bad : Int} {L : List Li} (h : InOK L) (hb : OneB bad L) : ∀ k, k ≤ L.length → Inv t bad (cK t L k)
  | 0, _ => begC_inv t bad
  | k + 1, hk => by
    have ih := run_inv (t := t) h hb k (by omega)
    have hc := List.getElem?_eq_getElem (show k < L.length by omega)
    have hE := (cK_ok (t := t) h k (by omega)).2.2 _ hc
    rw [cK_succ hc]
    unfold frC
    rw [if_pos hE]
    exact inv_step ih (hb _ (List.getElem_mem (by omega))) hE
theorem cK_nd {t : Tn} {L : List Li} (h : InOK L) {k : Nat} {c : Li} (hc : L[k]? = some c) (i : Nat) : (cK t L (k + 1)).nd i = frN c.x (cK t L k) i := by
  have hk := (List.getElem?_eq_some_iff.1 hc).1
  rw [cK_succ hc]
  unfold frC
  rw [if_pos ((cK_ok (t := t) h k (by omega)).2.2 c hc)]
theorem oneM_in {bad : Int} {L : List Li} {n : Nat} (hn : n ≤ 1000) (h : -1 ≤ bad ∧ bad < 4) : InOK (oneM bad L n) := ⟨by unfold oneM; rw [List.length_map, List.length_take]; omega, fun c hc => by
  unfold oneM at hc
  obtain ⟨d, _, rfl⟩ := List.mem_map.1 hc
  refine ⟨h, ?_⟩
  show (d.LL.take 400).length ≤ 400
  rw [List.length_take]; omega⟩
theorem oneM_one {bad : Int} {L : List Li} {n : Nat} : OneB bad (oneM bad L n) := fun c hc => by
  unfold oneM at hc
  obtain ⟨d, _, rfl⟩ := List.mem_map.1 hc
  rfl
theorem oneM_ok {bad : Int} {L : List Li} {n : Nat} {w : World} (h : ∀ c, c ∈ L → LiOK w c) (hb : R64 bad) : ∀ c, c ∈ oneM bad L n → LiOK w c := fun c hc => by
  unfold oneM at hc
  obtain ⟨d, hd, rfl⟩ := List.mem_map.1 hc
  exact oneL_ok (h d (List.mem_of_mem_take hd)) hb

end Go.Proofs.YthimcecbgpamdaaGreat

namespace Go.Proofs.YthimcecbgpamdaaGreat
open Go.RowKit

theorem qj_skip {P : Program} {ops : Array Oper} {Q : Exit → Act → World → Prop} {A : Act} {L : List (Nat × Value)} {w : World} {o : Oper} {d : Nat} {S : World → Prop} {late : Nat → Bool} {i : Nat} {r : PlanJ} (h : SeqJ P ops Q S late r (putL A ((d, undef) :: L)) w) (ho : ops[i]? = some o := by rfl) (hd : o.dst = some d := by rfl) (hQ : ∀ c a w, Q (.panic c) (a.put (some d) undef) w → Q (.panic c) a w := by exact fun _ _ _ h => h) (hw : Region.wanted o (yielded ops (putL A L).tmps) = false := by first | exact wanted_n rfl rfl rfl Qv (by decide) | exact wanted_u rfl rfl rfl Qv) : SeqJ P ops Q S late (.mv i r) (putL A L) w := j_skip ho hd hQ hw h
theorem clH_at (d : Int × (Nat → Nd × Ad)) {i j : Nat} (hj : j < 74) : clH d (0 + 1 + i * 74 + j) = ndF (d.2 i).1 (slV (d.2 i).2 (d.2 i).1.vA.length) j := by
  show clG d.1 d.2 _ = _
  rw [show 0 + 1 + i * 74 + j = 1 + i * 74 + j by omega]
  exact clF_nd _ _ _ hj
theorem agRd_of {w : World} {B : Nat} {d : Nd × Ad} (h : (agJ B d).p w) : AgRd w d.1 d.2.1 d.2.2 := by
  obtain ⟨a3, c3, e, hs3, _⟩ := owns_sr h
  cases e
  exact hs3
/-- What good ones agreed of a good one is what it read. -/
theorem run_true {t : Tn} {bad : Int} {L : List Li} (h : InOK L) (hb : OneB bad L) {k p s a : Nat} {c : Li} (hc : L[k]? = some c) (hp : p < 4) (hs : s < 4) (gp : (p : Int) ≠ bad) (gs : (s : Int) ≠ bad) (ha : a < 3) : ((cK t L (k + 1)).nd p).ag s a = c.rd s a := by
  have hk := (List.getElem?_eq_some_iff.1 hc).1
  have hE := (cK_ok (t := t) h k (by omega)).2.2 c hc
  have e : c.x.bad = bad := hb c (List.mem_of_getElem? hc)
  rw [cK_nd h hc, fr_good (run_inv h hb k (by omega)) e hE hp gp, n5_ag hE hp (by rw [e]; exact gp)]
  exact ag_good hE hp hs (by rw [e]; exact gp) (by rw [e]; exact gs) ha

end Go.Proofs.YthimcecbgpamdaaGreat

namespace Go.Proofs.YthimcecbgpamdaaGreat
open Go.RowKit

theorem run_lodX {P : Program} {f : Operand → Value} {o : Oper} {ty : TypeId} {x : Operand} (T : OneC P ty) {b off : Nat} {v : Value} {w : World} (hc : w.cell? ⟨b, off, none⟩ = some v) (ho : o.op = .load ty x) (hx : f x = .pointer (some ⟨b, off, none⟩)) : (execOp f o).run P w = .ok (.value v) w := by
  unfold execOp
  simp only [ho, hx, Instr.loadAt, Instr.sureAddr, loadVar, Sem.run_bind, Sem.run_pure, Result.andThen_ok, T.agg]
  go_simp
instance : ZerK Tryz.prog 35 3 (nvdF 0 false (.slice none 0 0)) := ⟨fun w => by kernel_rfl⟩
theorem nvd_one (x : Int) (b : Bool) (a : Ad) (n : Nat) : ∀ j, j < 3 → (nvdF x b (slV a n) j).oneCell' = true := fun j hj => by
  match j, hj with
  | 0, _ => rfl
  | 1, _ => rfl
  | 2, _ => rfl
theorem wanted_uu {o oj : Oper} {ops : Array Oper} {a : Act} {j d : Nat} {b : Bool} (hg : o.guard = some (j, b)) (hj : ops[j]? = some oj) (hd : oj.dst = some d) (hv : a.eval (.tmp d) = undef) : Region.wanted o (yielded ops a.tmps) = false := by
  have h2 : a.tmps.getD d undef = undef := hv
  have e : yielded ops a.tmps j = none := by
    unfold yielded
    rw [hj]
    simp only [Option.bind_some, hd]
    rcases Nat.lt_or_ge d a.tmps.size with h | h
    · have : a.tmps[d]? = some undef := by simp [h] at h2 ⊢; exact h2
      rw [this]; rfl
    · rw [Array.getElem?_eq_none h]
  simp [Region.wanted, hg, e]
theorem q_skipU {P : Program} {ops : Array Oper} {Q : Exit → Act → World → Prop} {rest : List Oper} {A : Act} {L : List (Nat × Value)} {w : World} {o : Oper} {d : Nat} (h : LstI P ops Q rest (putL A ((d, undef) :: L)) w) (hd : o.dst = some d := by rfl) (hw : Region.wanted o (yielded ops (putL A L).tmps) = false := by exact wanted_uu rfl rfl rfl Qv) : LstI P ops Q (o :: rest) (putL A L) w := m_skip hd hw h
/-- How many put out. -/
theorem run_len {t : Tn} {bad : Int} {L : List Li} (h : InOK L) (hb : OneB bad L) {k : Nat} {c : Li} {l : List Nd} (hc : L[k]? = some c) (hbd : -1 ≤ bad ∧ bad < 4) (e : l = frR c.x (cK t L k)) : (bad < 0 ∧ l.length = 4) ∨ (0 ≤ bad ∧ l.length = 3) := by
  have hk := (List.getElem?_eq_some_iff.1 hc).1
  have hE := (cK_ok (t := t) h k (by omega)).2.2 c hc
  have e2 : c.x.bad = bad := hb c (List.mem_of_getElem? hc)
  rw [e]
  unfold frR
  rw [if_pos hE, List.length_map, e2]
  have : bad = -1 ∨ bad = 0 ∨ bad = 1 ∨ bad = 2 ∨ bad = 3 := by omega
  rcases this with rfl | rfl | rfl | rfl | rfl
  · exact Or.inl ⟨by decide, by decide⟩
  all_goals exact Or.inr ⟨by decide, by decide⟩
/-- Good ones: strong, their own, good, in. -/
theorem run_on {t : Tn} {bad : Int} {L : List Li} (h : InOK L) (hb : OneB bad L) {k : Nat} {c : Li} (hc : L[k]? = some c) : ∀ p : Nat, p < 4 → (p : Int) ≠ bad → ((cK t L (k + 1)).nd p).vS = true ∧ ((cK t L (k + 1)).nd p).vX = ((cK t L (k + 1)).nd p).dg ∧ gdA ((cK t L (k + 1)).nd p).rl = true ∧ ∀ s : Nat, s < 4 → (s : Int) ≠ bad → ((cK t L (k + 1)).nd p).rl.I s = true ∧ ((cK t L (k + 1)).nd p).rl.M s = 0 := fun p hp gp => by
  have hk := (List.getElem?_eq_some_iff.1 hc).1
  have hE := (cK_ok (t := t) h k (by omega)).2.2 c hc
  have e : c.x.bad = bad := hb c (List.mem_of_getElem? hc)
  have hi := run_inv (t := t) h hb k (by omega)
  have hi2 := run_inv (t := t) h hb (k + 1) (by omega)
  refine ⟨?_, ?_, hi2.gd p hp gp, fun s hs gs => hi2.on p s hp hs gp gs⟩
  · rw [cK_nd h hc, fr_good hi e hE hp gp]
    exact (jud_three hE hp (by rw [e]; exact gp) (vt_all hi e hE hp gp)).2.1
  · rw [cK_nd h hc, fr_good hi e hE hp gp]
    exact vX_good hi e hE hp gp
end Go.Proofs.YthimcecbgpamdaaGreat

namespace Go.Proofs.YthimcecbgpamdaaGreat
open Go.RowKit

/-- Do two computers know the same? -/
structure Twn (n m : Nd) : Prop where
  ax : ∀ a, a < 3 → n.ax a = m.ax a
  rl : RlE n.rl m.rl
  ag : ∀ s a, s < 4 → a < 3 → n.ag s a = m.ag s a
  us : ∀ a, a < 3 → n.us a = m.us a
  dg : n.dg = m.dg
  fr : n.fr = m.fr
  vX : n.vX = m.vX
  vS : n.vS = m.vS
  vA : n.vA = m.vA
section
variable {n m : Nd} {v u : Value}
theorem twn_ax (h : Twn n m) : agV (ndF m u) (0 + 6) 21 = agV (fun j => nstF (n.ax (j / 7)) (j % 7)) 0 21 := agV_cong (fun j hj => by rw [ndF_axs m u j hj, h.ax (j / 7) (by omega)])
theorem own_ax : agV (ndF n v) (0 + 6) 21 = agV (fun j => nstF (n.ax (j / 7)) (j % 7)) 0 21 := agV_cong (ndF_axs n v)
theorem twn_rl (h : Twn n m) : agV (ndF m u) (0 + 27) 12 = rollV n.rl := by
  rw [agV_cong (f := nrlF n.rl) (fun j hj => by
    rw [ndF_rl m u j hj]
    unfold nrlF
    by_cases c1 : j < 4
    · rw [if_pos c1, if_pos c1, (h.rl j c1).1]
    · rw [if_neg c1, if_neg c1]
      by_cases c2 : j < 8
      · rw [if_pos c2, if_pos c2, (h.rl (j - 4) (by omega)).2.1]
      · rw [if_neg c2, if_neg c2, (h.rl (j - 8) (by omega)).2.2])]
  rfl
theorem own_rl : agV (ndF n v) (0 + 27) 12 = rollV n.rl := by
  rw [agV_cong (ndF_rl n v)]
  rfl
theorem twn_ag (h : Twn n m) : agV (ndF m u) (0 + 55) 12 = agV (fun j => iV (n.ag (j / 3) (j % 3))) 0 12 := agV_cong (fun j hj => by rw [ndF_ags m u j hj, h.ag (j / 3) (j % 3) (by omega) (by omega)])
theorem own_ag : agV (ndF n v) (0 + 55) 12 = agV (fun j => iV (n.ag (j / 3) (j % 3))) 0 12 := agV_cong (ndF_ags n v)
theorem twn_us (h : Twn n m) : agV (ndF m u) (0 + 67) 3 = agV (fun j => iV (n.us j)) 0 3 := agV_cong (fun j hj => by rw [ndF_uss m u j hj, h.us j hj])
theorem own_us : agV (ndF n v) (0 + 67) 3 = agV (fun j => iV (n.us j)) 0 3 := agV_cong (ndF_uss n v)
end
end Go.Proofs.YthimcecbgpamdaaGreat

namespace Go.Proofs.YthimcecbgpamdaaGreat
open Go.RowKit

theorem twn_frame {t : Tn} {bad : Int} {x : Ip} {c : Cl} (h : Inv t bad c) (hb : x.bad = bad) (hE : frE x c = 0) {p q : Nat} (hp : p < 4) (hq : q < 4) (gp : (p : Int) ≠ bad) (gq : (q : Int) ≠ bad) : Twn (frN x c p) (frN x c q) := by
  have gp' : (p : Int) ≠ x.bad := by rw [hb]; exact gp
  have gq' : (q : Int) ≠ x.bad := by rw [hb]; exact gq
  have s := inv_step h hb hE
  have ax := s.ax p q hp hq gp gq
  have rl := s.rl p q hp hq gp gq
  have ax : ∀ a, a < 3 → (frN x c p).ax a = (frN x c q).ax a := ax
  have rl : RlE (frN x c p).rl (frN x c q).rl := rl
  rw [fr_good h hb hE hp gp, fr_good h hb hE hq gq] at ax rl ⊢
  refine ⟨ax, rl, fun s a hs ha => ?_, fun a ha => ?_, ?_, ?_, ?_, ?_, vA_like h hb hE hp hq gp gq⟩
  · rw [n5_ag hE hp gp', n5_ag hE hq gq']
    exact ag_same hE hp hq hs gp' gq' ha
  · rw [n5_us hE hp gp', n5_us hE hq gq']
    exact us_same hE hp hq gp' gq' (h.rl p q hp hq gp gq) ha
  · rw [n5_dg hE hp gp', n5_dg hE hq gq']
    exact dg_all h hb hE hp hq gp gq
  · rw [fr5 hE hp gp', fr5 hE hq gq']
  · rw [vX_good h hb hE hp gp, vX_good h hb hE hq gq, n5_dg hE hp gp', n5_dg hE hq gq']
    exact dg_all h hb hE hp hq gp gq
  · rw [(jud_three hE hp gp' (vt_all h hb hE hp gp)).2.1, (jud_three hE hq gq' (vt_all h hb hE hq gq)).2.1]
/-- Behind each frame good ones know the same. -/
theorem run_twn {t : Tn} {bad : Int} {L : List Li} (h : InOK L) (hb : OneB bad L) {k p q : Nat} (hk : k < L.length) (hp : p < 4) (hq : q < 4) (gp : (p : Int) ≠ bad) (gq : (q : Int) ≠ bad) : Twn ((cK t L (k + 1)).nd p) ((cK t L (k + 1)).nd q) := by
  have hc := List.getElem?_eq_getElem hk
  rw [cK_nd h hc, cK_nd h hc]
  exact twn_frame (run_inv h hb k (by omega)) (hb _ (List.getElem_mem hk)) ((cK_ok (t := t) h k (by omega)).2.2 _ hc) hp hq gp gq

end Go.Proofs.YthimcecbgpamdaaGreat

namespace Go.Proofs.YthimcecbgpamdaaGreat
open Go.RowKit

section
variable {t : Tn} {bad : Int} {L : List Li} {k : Nat} {c : Li}
/-- Who puts out. -/
theorem frR_mem (h : InOK L) (hb : OneB bad L) (hc : L[k]? = some c) {n : Nd} (hn : n ∈ frR c.x (cK t L k)) : ∃ i : Nat, i < 4 ∧ (i : Int) ≠ bad ∧ n = (cK t L (k + 1)).nd i ∧ n.id = (i : Nat) ∧ n.fr = (k : Nat) := by
  have hk := (List.getElem?_eq_some_iff.1 hc).1
  obtain ⟨hf, _, hE⟩ := cK_ok (t := t) h k (by omega)
  have hE := hE c hc
  have e : c.x.bad = bad := hb c (List.mem_of_getElem? hc)
  unfold frR at hn
  rw [if_pos hE] at hn
  obtain ⟨i, hi, rfl⟩ := List.mem_map.1 hn
  unfold gdL at hi
  have h1 := List.mem_filter.1 hi
  have i4 := List.mem_range.1 h1.1
  have gi : (i : Int) ≠ bad := by rw [← e]; exact of_decide_eq_true h1.2
  refine ⟨i, i4, gi, (cK_nd h hc i).symm, frN_id hE i4, ?_⟩
  rw [fr_good (run_inv h hb k (by omega)) e hE i4 gi, fr5 hE i4 (by rw [e]; exact gi), hf]
/-- The first good one. -/
def fgN (bad : Int) : Nat := if bad = 0 then 1 else 0
theorem fgN_ok (bad : Int) : fgN bad < 4 ∧ (fgN bad : Int) ≠ bad := by
  unfold fgN
  split
  · rename_i h; subst h; exact ⟨by omega, by omega⟩
  · rename_i h; exact ⟨by omega, fun e => h e.symm⟩
theorem frR_head (h : InOK L) (hb : OneB bad L) (hbd : -1 ≤ bad ∧ bad < 4) (hc : L[k]? = some c) : (frR c.x (cK t L k))[0]? = some ((cK t L (k + 1)).nd (fgN bad)) := by
  have hk := (List.getElem?_eq_some_iff.1 hc).1
  have hE := (cK_ok (t := t) h k (by omega)).2.2 c hc
  have e : c.x.bad = bad := hb c (List.mem_of_getElem? hc)
  unfold frR
  rw [if_pos hE, e, cK_nd h hc]
  have : bad = -1 ∨ bad = 0 ∨ bad = 1 ∨ bad = 2 ∨ bad = 3 := by omega
  rcases this with rfl | rfl | rfl | rfl | rfl <;> rfl
theorem rp_like {n m : Nd} (h : Twn n m) : ∀ j, 1 ≤ j → j < 14 → rpF m j = rpF n j := fun j h1 h2 => by
  unfold rpF rpP
  by_cases c0 : j = 0
  · omega
  rw [if_neg c0, if_neg c0]
  by_cases c1 : j = 1
  · rw [if_pos c1, if_pos c1, h.fr]
  rw [if_neg c1, if_neg c1]
  by_cases c2 : j < 5
  · rw [if_pos c2, if_pos c2, h.us _ (by omega)]
  rw [if_neg c2, if_neg c2]
  by_cases c3 : j < 8
  · rw [if_pos c3, if_pos c3, if_pos (by omega), if_pos (by omega), h.ax _ (by omega)]
  rw [if_neg c3, if_neg c3]
  by_cases c4 : j = 8
  · rw [if_pos c4, if_pos c4, h.dg]
  rw [if_neg c4, if_neg c4]
  by_cases c5 : j = 9
  · rw [if_pos c5, if_pos c5, h.vS]
  rw [if_neg c5, if_neg c5, (h.rl _ (by omega)).1]
/-- What one filter makes of what is used. -/
def usF (t : Tn) (bad : Int) (L : List Li) (a i : Nat) : Int := ((cK t L (i + 1)).nd (fgN bad)).us a
theorem run_follow (h : InOK L) (hb : OneB bad L) (a : Nat) : ∀ k, k ≤ L.length → ((cK t L k).nd (fgN bad)).ax a = runS St.beg0 t (usF t bad L a) k
  | 0, _ => by
    show (begN ((fgN bad : Nat) : Int) t).ax a = St.beg0
    rw [begN_at t (fgN_ok bad).1]
  | k + 1, hk => by
    have ih := run_follow h hb a k (by omega)
    have hc := List.getElem?_eq_getElem (show k < L.length by omega)
    have hE := (cK_ok (t := t) h k (by omega)).2.2 _ hc
    have e : (L[k]'(by omega)).x.bad = bad := hb _ (List.getElem_mem (by omega))
    show _ = stepS (runS St.beg0 t (usF t bad L a) k) t (usF t bad L a k)
    rw [← ih]
    unfold usF
    rw [cK_nd h hc]
    exact ax_follow (run_inv h hb k (by omega)) e hE (fgN_ok bad).1 (fgN_ok bad).2
/-- Without a bad one. -/
theorem run_plain (h : InOK L) (hb : OneB (-1) L) (hc : L[k]? = some c) {a : Nat} (ha : a < 3) : ((cK t L (k + 1)).nd (fgN (-1))).us a = midL [c.rd 0 a, c.rd 1 a, c.rd 2 a, c.rd 3 a] := by
  have hk := (List.getElem?_eq_some_iff.1 hc).1
  have hE := (cK_ok (t := t) h k (by omega)).2.2 c hc
  have e : c.x.bad = -1 := hb c (List.mem_of_getElem? hc)
  rw [cK_nd h hc]
  exact us_plain (run_inv h hb k (by omega)) e hE rfl (by decide) ha
theorem frR_plain (h : InOK L) (hb : OneB (-1) L) (hc : L[k]? = some c) : frR c.x (cK t L k) = [(cK t L (k + 1)).nd 0, (cK t L (k + 1)).nd 1, (cK t L (k + 1)).nd 2, (cK t L (k + 1)).nd 3] := by
  have hk := (List.getElem?_eq_some_iff.1 hc).1
  have hE := (cK_ok (t := t) h k (by omega)).2.2 c hc
  have e : c.x.bad = -1 := hb c (List.mem_of_getElem? hc)
  unfold frR
  rw [if_pos hE, e, cK_nd h hc, cK_nd h hc, cK_nd h hc, cK_nd h hc]
  rfl
/-- One that sends nothing: out behind the second frame. -/
theorem run_silent {b : Nat} (h4 : b < 4) (h : InOK L) (hb : OneB (b : Int) L) (hl : ∀ c, c ∈ L → c.LL = []) {g : Nat} (hg : g < 4) (gb : g ≠ b) : ∀ k, k ≤ L.length → (∀ j, j < k → ((cK t L (j + 1)).nd g).dg ≠ 0) →
    (k = 0 → ((cK t L k).nd g).rl.I b = true ∧ ((cK t L k).nd g).rl.M b = 0) ∧ (k = 1 → ((cK t L k).nd g).rl.I b = true ∧ ((cK t L k).nd g).rl.M b = 1) ∧ (2 ≤ k → ((cK t L k).nd g).rl.I b = false)
  | 0, _, _ => ⟨fun _ => by
      show (begN ((g : Nat) : Int) t).rl.I b = true ∧ (begN ((g : Nat) : Int) t).rl.M b = 0
      rw [begN_at t hg]
      exact ⟨rfl, rfl⟩, fun h => by omega, fun h => by omega⟩
  | k + 1, hk, hd => by
    obtain ⟨i0, i1, i2⟩ := run_silent h4 h hb hl hg gb k (by omega) (fun j hj => hd j (by omega))
    have hc := List.getElem?_eq_getElem (show k < L.length by omega)
    obtain ⟨c, ec⟩ : ∃ c, c = L[k]'(by omega) := ⟨_, rfl⟩
    rw [← ec] at hc
    have hm := List.mem_of_getElem? hc
    have hE := (cK_ok (t := t) h k (by omega)).2.2 _ hc
    have e : c.x.bad = (b : Int) := hb _ hm
    have hi := run_inv (t := t) h hb k (by omega)
    have gg : (g : Int) ≠ (b : Int) := by omega
    have gx : (g : Int) ≠ c.x.bad := by rw [e]; exact gg
    have el : c.x.ly = [] := by show c.LL.map Lj.y = []; rw [hl c hm]; rfl
    have hd := hd k (by omega)
    have hfr : (cK t L (k + 1)).nd g = ndK c.x (cK t L k) 5 g := by rw [cK_nd h hc, fr_good hi e hE hg gg]
    rw [hfr] at hd ⊢
    rw [n5_dg hE hg gx] at hd
    rw [rl_good hi e hE hg gg]
    have hv := vt_all hi e hE hg gg
    have hA : ∀ s, s < 4 → s ≠ b → decide (vtK c.x (cK t L k) g s = (ndK c.x (cK t L k) 3 g).dg) = true ∧ ((cK t L k).nd g).rl.I s = true ∧ ((cK t L k).nd g).rl.M s = 0 := fun s hs es => ⟨decide_eq_true (hv s hs (by omega)).1, hi.on g s hg hs gg (by omega)⟩
    have h0 : decide (vtK c.x (cK t L k) g b = (ndK c.x (cK t L k) 3 g).dg) = false := decide_eq_false (by rw [vt_silent hE el e h4 hg gx]; exact fun q => hd q.symm)
    obtain ⟨d1, d2, d3⟩ := rn_dis (A := fun s => decide (vtK c.x (cK t L k) g s = (ndK c.x (cK t L k) 3 g).dg)) (r := ((cK t L k).nd g).rl) h4 hA h0
    refine ⟨fun h => by omega, fun h1 => ?_, fun h2 => ?_⟩
    · obtain ⟨q1, q2⟩ := i0 (by omega)
      exact d2 q1 q2
    · by_cases e1 : k = 1
      · obtain ⟨q1, q2⟩ := i1 e1
        exact d3 q1 q2
      · exact d1 (i2 (by omega))
end

end Go.Proofs.YthimcecbgpamdaaGreat

namespace Go.Proofs.YthimcecbgpamdaaGreat
open Go.RowKit

theorem rpF0 (n : Nd) : rpF n 0 = .int .i64 n.id := rfl
theorem rpF1 (n : Nd) : rpF n 1 = .int .i64 n.fr := rfl
theorem rpF8 (n : Nd) : rpF n 8 = .int .i64 n.dg := rfl
theorem rp_us (n : Nd) : agV (rpF n) (0 + 2) 3 = agV (fun j => iV (n.us j)) 0 3 := agV_cong (fun j hj => by
  match j, hj with
  | 0, _ => rfl
  | 1, _ => rfl
  | 2, _ => rfl)
theorem rp_in (n : Nd) : agV (rpF n) (0 + 10) 4 = agV (fun j => .bool (n.rl.I j)) 0 4 := agV_cong (fun j hj => by
  match j, hj with
  | 0, _ => rfl
  | 1, _ => rfl
  | 2, _ => rfl
  | 3, _ => rfl)
theorem nd_in (n : Nd) (v : Value) : agV (ndF n v) (0 + 27 + 0) 4 = agV (fun j => .bool (n.rl.I j)) 0 4 := agV_cong (fun j hj => by
  match j, hj with
  | 0, _ => rfl
  | 1, _ => rfl
  | 2, _ => rfl
  | 3, _ => rfl)
set_option maxRecDepth 100000 in
theorem run_neqB4N {f : Operand → Value} {o : Oper} (x y : Operand) (ho : o.op = .binOp .neq 27 x y 27) {g : Nat → Bool} (hx : f x = agV (fun j => .bool (g j)) 0 4) (hy : f y = agV (fun j => .bool (g j)) 0 4) (w : World) : (execOp f o).run Tryz.prog w = .ok (.value (.bool false)) w := by
  have hx' : f x = .agg #[.bool (g 0), .bool (g 1), .bool (g 2), .bool (g 3)] := hx
  have hy' : f y = .agg #[.bool (g 0), .bool (g 1), .bool (g 2), .bool (g 3)] := hy
  clear hx hy
  have h0 := run_eqB4 9998 (g 0) (g 1) (g 2) (g 3) w
  unfold execOp
  rw [ho]
  dsimp only
  rw [hx', hy']
  go_simp
set_option maxRecDepth 100000 in
theorem run_neqRpN {f : Operand → Value} {o : Oper} (x y : Operand) (ho : o.op = .binOp .neq 86 x y 86) {n : Nd} (hx : f x = agV (rpF n) 0 14) (hy : f y = agV (rpF n) 0 14) (w : World) : (execOp f o).run Tryz.prog w = .ok (.value (.bool false)) w := by
  have hx' : f x = .agg #[.int .i64 n.id, .int .i64 n.fr, .int .i64 (n.us 0), .int .i64 (n.us 1), .int .i64 (n.us 2), .int .i64 (n.ax 0).X, .int .i64 (n.ax 1).X, .int .i64 (n.ax 2).X, .int .i64 n.dg, .bool n.vS, .bool (n.rl.I 0), .bool (n.rl.I 1), .bool (n.rl.I 2), .bool (n.rl.I 3)] := hx
  have hy' : f y = .agg #[.int .i64 n.id, .int .i64 n.fr, .int .i64 (n.us 0), .int .i64 (n.us 1), .int .i64 (n.us 2), .int .i64 (n.ax 0).X, .int .i64 (n.ax 1).X, .int .i64 (n.ax 2).X, .int .i64 n.dg, .bool n.vS, .bool (n.rl.I 0), .bool (n.rl.I 1), .bool (n.rl.I 2), .bool (n.rl.I 3)] := hy
  clear hx hy
  have u3 := Tryz.underlying3
  have a3 := Tryz.isAgg3
  have z3 := Tryz.sizeOf3
  have u4 := Tryz.underlying4
  have a4 := Tryz.isAgg4
  have z4 := Tryz.sizeOf4
  have h0 : (Op.equalIn 9999 31 (.agg #[.int .i64 (n.us 0), .int .i64 (n.us 1), .int .i64 (n.us 2)]) (.agg #[.int .i64 (n.us 0), .int .i64 (n.us 1), .int .i64 (n.us 2)])).run Tryz.prog w = .ok true w := run_eqI3 9997 n.us w
  have h1 : (Op.equalIn 9999 31 (.agg #[.int .i64 (n.ax 0).X, .int .i64 (n.ax 1).X, .int .i64 (n.ax 2).X]) (.agg #[.int .i64 (n.ax 0).X, .int .i64 (n.ax 1).X, .int .i64 (n.ax 2).X])).run Tryz.prog w = .ok true w := run_eqI3 9997 (fun j => (n.ax j).X) w
  have h2 : (Op.equalIn 9999 27 (.agg #[.bool (n.rl.I 0), .bool (n.rl.I 1), .bool (n.rl.I 2), .bool (n.rl.I 3)]) (.agg #[.bool (n.rl.I 0), .bool (n.rl.I 1), .bool (n.rl.I 2), .bool (n.rl.I 3)])).run Tryz.prog w = .ok true w := run_eqB4 9997 (n.rl.I 0) (n.rl.I 1) (n.rl.I 2) (n.rl.I 3) w
  have t0 : (n.id == n.id) = true := by simp
  have t1 : (n.fr == n.fr) = true := by simp
  have t2 : (n.dg == n.dg) = true := by simp
  have t3 : (n.vS == n.vS) = true := by simp
  unfold execOp
  rw [ho]
  dsimp only
  rw [hx', hy']
  go_simp

end Go.Proofs.YthimcecbgpamdaaGreat

namespace Go.Proofs.YthimcecbgpamdaaGreat
open Go.RowKit

theorem bytesL_any (ao : Option Addr) (len cap : Nat) (f : Nat → Value) (w : World) (hl : len ≤ 140737488355328) (h1 : ∀ i, (f i).oneCell' = true) (hr : Sr w ao len cap f) :
    Calls Tryz.prog 21 #[.slice ao len cap] w fun e w' => ∃ v, e = .returned v ∧ w'.ownsRow w.heap.size 5 1 v len (rowV f len) ∧ Below w.heap.size w w' := by
  go_enter Tryz.func21, Tryz.ntmps21
  go_wp2_with (at_builtin; refine wpList_join _ rfl _ _ rfl w.heap.size (Nat.le_refl _) (.slice none 0 0) 0 [] rfl (World.ownsRow_nil _ _ _ _) ao len cap f rfl hr (fun i _ => h1 i) (by omega) ?_)
  intro v' w' h2 k2
  try rw [Nat.zero_add] at h2
  try rw [List.nil_append] at h2
  go_wp2_with fail
  go_ret
  exact ⟨_, rfl, h2, k2⟩

/-- The nine digits. -/
def digF (i : Nat) : Nat := if i < 9 then 49 + i else 0
theorem digF_lt (i : Nat) : digF i < 256 := by unfold digF; split <;> omega
theorem digits : moreN 0 digF 9 = 3421780262 := by decide +kernel

/-- The nine digits in memory. -/
def digA : Array Value := #[.int .u8 49, .int .u8 50, .int .u8 51, .int .u8 52, .int .u8 53, .int .u8 54, .int .u8 55, .int .u8 56, .int .u8 57]
theorem digA_rd (w : World) : Rd (w.alloc (.cells digA 5 (9, 9 + 1))) (some ⟨w.heap.size, 0, none⟩) 9 (bF digF) := by
  refine fun _ => ⟨_, _, rfl, fun i hi => ?_⟩
  rw [Nat.zero_add, cell_of_row _ w.heap.size i digA 5 (9, 9 + 1) (heap_alloc_new _ _)]
  have : i = 0 ∨ i = 1 ∨ i = 2 ∨ i = 3 ∨ i = 4 ∨ i = 5 ∨ i = 6 ∨ i = 7 ∨ i = 8 := by omega
  rcases this with rfl | rfl | rfl | rfl | rfl | rfl | rfl | rfl | rfl <;> rfl


end Go.Proofs.YthimcecbgpamdaaGreat

namespace Go.Proofs.YthimcecbgpamdaaGreat
open Go.RowKit

instance iRefCl5_1 : EntK Tryz.prog 11 := ⟨fun args w => by go_simp⟩
set_option maxHeartbeats 2000000 in
theorem refSameReports_any (R : List Nd) (a1 a2 : Option Addr) (c1 c2 : Nat) (w : World) (h1 : RdS rpF 14 w a1 R) (h2 : RdS rpF 14 w a2 R) (hl : R.length ≤ 1000) :
    Calls Tryz.prog 11 #[.slice a1 R.length c1, .slice a2 R.length c2] w fun e w' => e = .returned (.bool true) ∧ Below w.heap.size w w' := by
  refine enterF Tryz.func11 rfl 26 rfl (of_decide_eq_true rfl) (fun A hs hd hb => ?_)
  have b0 : A.eval (.tmp 0) = .slice a1 R.length c1 := hb 0 _ rfl
  have b1 : A.eval (.tmp 1) = .slice a2 R.length c2 := hb 1 _ rfl
  clear hb
  have H := Cx.start w
  refine c_rs (m_start ?_)
  refine qa ?_
  refine l_nx ?_
  refine c_nx ?_
  refine c_rs ?_
  iterate 4 refine qa ?_
  refine qg (run_neqI (b := false) _ _ rfl Qv Qv (by simp) _) ?_
  refine l_nx ?_
  refine q_no rfl (c_fin ?_)
  refine c_nx ?_
  refine c_rs ?_
  iterate 3 refine qa ?_
  refine l_nx ?_
  refine c_block ?_
  refine c_loop (fun r A W => ∃ i : Nat, i ≤ R.length ∧ R.length - i ≤ r ∧ A.tmps.size = 26 ∧ A.defers = [] ∧ A.eval (.tmp 0) = .slice a1 R.length c1 ∧ A.eval (.tmp 1) = .slice a2 R.length c2 ∧ A.eval (.tmp 12) = .int .i64 (R.length : Int) ∧ A.eval (.tmp 13) = .int .i64 (i : Int) ∧ Cx w W []) R.length
    ⟨0, Nat.zero_le _, by omega, (szL _ _).trans hs, (defL _ _).trans hd, Qv, Qv, Qv, Qv, H⟩ (fun r A W hI => ?_)
  clear b0 b1 hs hd H
  obtain ⟨i, hi, hir, hs, hd, b0, b1, b12, b13, H⟩ := hI
  refine c_rs (m_start ?_)
  refine qa ?_
  refine l_nx ?_
  refine c_nx ?_
  refine q_if (fun h => ?_) (fun h => ?_)
  · have hin : i < R.length := by have := of_decide_eq_true h; omega
    have hc := List.getElem?_eq_getElem hin
    obtain ⟨n, en⟩ : ∃ n, n = R[i] := ⟨_, rfl⟩
    rw [← en] at hc
    obtain ⟨p1, o1, rfl, hc1⟩ := h1 (by omega)
    obtain ⟨p2, o2, rfl, hc2⟩ := h2 (by omega)
    have hc1 := hc1 i n hc
    have hc2 := hc2 i n hc
    refine c_fin ?_
    refine c_nx (c_block ?_)
    refine c_rs ?_
    iterate 2 refine qa ?_
    refine l_nx ?_
    refine c_nx ?_
    replace H := H.drew
    have hS : (fun W' => Below w.heap.size w W') W.drew := H.bel
    refine c_rj (S := fun W' => Below w.heap.size w W') (.mv 0 (.mv 1 (.mv 2 (.rd 3 (.mv 4 (.mv 5 (.mv 6 (.rd 7 (.mv 8 .fin))))))))) [] (by kernel_rfl) (by kernel_rfl) ?_
    iterate 2 refine qj ?_
    refine j_mv rfl rfl (fun _ _ _ h => h) (wanted_rd rfl) (fun w => run_ixSC _ _ _ _ rfl SlcK.out SizK.out Qv Qv rfl hin w) ?_
    refine j_rd rfl rfl (fun _ _ _ h => h) (wanted_rd rfl) hS (fun _ H => run_lodCs (g := rpF n) ManyK.out (fun q hq => at_below (hc1 q hq) H) rfl Qv) ?_
    iterate 2 refine qj ?_
    refine j_mv rfl rfl (fun _ _ _ h => h) (wanted_rd rfl) (fun w => run_ixSC _ _ _ _ rfl SlcK.out SizK.out Qv Qv rfl hin w) ?_
    refine j_rd rfl rfl (fun _ _ _ h => h) (wanted_rd rfl) hS (fun _ H => run_lodCs (g := rpF n) ManyK.out (fun q hq => at_below (hc2 q hq) H) rfl Qv) ?_
    refine j_mv rfl rfl (fun _ _ _ h => h) (wanted_rd rfl) (fun w => run_neqRpN _ _ rfl Qv Qv w) ?_
    refine j_nx ?_
    refine q_no rfl (c_finB ?_)
    refine c_region ?_
    repeat refine qa ?_
    exact l_round ⟨R.length - (i + 1), by omega, i + 1, by omega, by omega, (szL _ _).trans hs, (defL _ _).trans hd, Qv, Qv, Qv, Eq.trans Qv (by rw [Int.natCast_add]; rfl), H⟩
  · refine c_exit (x_out ?_)
    refine c_rs ?_
    refine qa ?_
    refine l_nx ?_
    exact c_ret (ret_of ((defL _ _).trans hd) (res_t rfl Qv) ⟨rfl, H.bel⟩)

/-- Lies' bytes, each a row of one's own; inputs' lies. -/
def lbJ (B : Nat) (c : Lj) : It := ownI B 5 1 (ljV c) c.y.n (rowV (bF c.y.g) c.y.n)
def manyI {α : Type} (f : α → It) (L : List α) : It := ⟨fun w => ∀ c, c ∈ L → (f c).p w, fun k => ∃ c, c ∈ L ∧ (f c).foot k, fun h e c hc => (f c).ok (h c hc) (fun k h1 h2 => e k h1 ⟨c, hc, h2⟩), fun h ⟨c, hc, e⟩ => (f c).lt (h c hc) e⟩
theorem many_put {w0 w : World} {α : Type} {f : α → It} {L : List α} {c : α} {l : List It} (H : Cx w0 w (f c :: manyI f L :: l)) : Cx w0 w (manyI f (L ++ [c]) :: l) :=
  H.merge.wk (fun h d hd => by
    rcases List.mem_append.1 hd with hd | hd
    · exact h.2 d hd
    · rw [List.mem_singleton.1 hd]; exact h.1) (fun k ⟨d, hd, hk⟩ => by
    rcases List.mem_append.1 hd with hd | hd
    · exact Or.inr ⟨d, hd, hk⟩
    · rw [List.mem_singleton.1 hd] at hk; exact Or.inl hk)
def liJ (B : Nat) (c : Li) : It := (ownI B 78 3 (.slice c.lo c.LL.length c.lc) c.LL.length (rwS ljF 3 c.LL)).and (manyI (lbJ B) c.LL)
theorem li_rd {w : World} {B : Nat} {c : Li} (h : (liJ B c).p w) (hb : ∀ d, d ∈ c.LL → d.y.n ≤ 140737488351232 ∧ ∀ i, d.y.g i < 256) : JRd w c.lo c.LL := by
  refine ⟨rdS_own (F := ljF) (s := 3) h.1 (by decide), fun d hd => ?_⟩
  have h2 : World.ownsRow _ _ _ _ _ _ _ := h.2 d hd
  obtain ⟨a, q, e, s, hc⟩ := owns_sr h2
  unfold ljV at e
  cases e
  exact ⟨s, hc, hb d hd⟩
theorem ipF_lie (rd : Nat → Nat → Int) (bad : Int) (u v : Value) : ∀ j, j < 14 → stW (ipF rd bad u) (0 + 13) v j = ipF rd bad v j := by grind [stW, ipF]
theorem lyF_put (ph wo : Int) (u v : Value) : ∀ j, j < 3 → stW (lyF ph wo u) (0 + 2) v j = lyF ph wo v j := fun j hj => by
  match j, hj with
  | 0, _ => rfl
  | 1, _ => rfl
  | 2, _ => rfl
set_option maxRecDepth 10000 in
set_option maxHeartbeats 4000000 in
theorem inputs_any (mo : Option Addr) (mc : Nat) (L : List Li) (w : World) (hr : RdS inpF 14 w mo L) (hok : ∀ c, c ∈ L → LiOK w c) (hln : L.length * 128 ≤ 140737488351232) (hll : ∀ c, c ∈ L → c.LL.length * 40 ≤ 140737488351232) :
    Calls Tryz.prog 7 #[.slice mo L.length mc] w fun e w' => ∃ (mo' : Option Addr) (mc' : Nat) (L' : List Li), e = .returned (.slice mo' L'.length mc') ∧ L'.map Li.x = L.map Li.x ∧ RdS inpF 14 w' mo' L' ∧ (∀ c, c ∈ L' → LiOK w' c) ∧ Below w.heap.size w w' := by
  refine enterF Tryz.func7 rfl 52 rfl (of_decide_eq_true rfl) (fun A hs hd hb => ?_)
  have b0 : A.eval (.tmp 0) = .slice mo L.length mc := hb 0 _ rfl
  clear hb
  have H := Cx.start w
  refine c_rs (m_start ?_)
  refine qa ?_
  refine l_nx ?_
  refine c_rs ?_
  refine qa ?_
  refine l_nx ?_
  refine c_nx ?_
  refine c_rs ?_
  refine qa ?_
  refine l_nx ?_
  refine c_block ?_
  refine c_loop (fun r A W => ∃ (i : Nat) (u : Value) (M : List Li), i ≤ L.length ∧ L.length - i ≤ r ∧ A.tmps.size = 52 ∧ A.defers = [] ∧ A.eval (.tmp 0) = .slice mo L.length mc ∧ A.eval (.tmp 3) = u ∧ A.eval (.tmp 4) = .int .i64 (i : Int) ∧ M.map Li.x = (L.map Li.x).take i ∧ M.length = i ∧ (∀ c, c ∈ M → IpOK c.x ∧ c.LL.length ≤ c.lc ∧ ∀ d, d ∈ c.LL → d.y.n ≤ 140737488351232 ∧ ∀ i, d.y.g i < 256) ∧ Cx w W [ownI w.heap.size 43 14 u M.length (rwS inpF 14 M), manyI (liJ w.heap.size) M]) L.length
    ⟨0, _, [], Nat.zero_le _, by omega, (szL _ _).trans hs, (defL _ _).trans hd, Qv, Qv, Qv, rfl, rfl, fun _ h => absurd h (by simp), (H.add (Below.refl _ _) (manyI (liJ w.heap.size) []) (fun _ h => absurd h (by simp)) (fun j ⟨_, h, _⟩ => absurd h (by simp))).add (Below.refl _ _) (ownI _ _ _ _ _ _) (World.ownsRow_nil _ _ _ _) (fun j e => nomatch e)⟩ (fun r A W hI => ?_)
  clear b0 hs hd H
  obtain ⟨i, u, M, hi, hir, hs, hd, b0, b3, b4, hM, hMl, hMo, H⟩ := hI
  refine c_nx ?_
  refine c_rs (m_start ?_)
  iterate 4 refine qa ?_
  refine l_nx ?_
  refine q_if (fun h => ?_) (fun h => ?_)
  · have hin : i < L.length := by have := of_decide_eq_true h; omega
    have hc := List.getElem?_eq_getElem hin
    obtain ⟨cc, ec⟩ : ∃ cc, cc = L[i] := ⟨_, rfl⟩
    rw [← ec] at hc
    have hcm := List.mem_of_getElem? hc
    have hcc := hok cc hcm
    have hcl := hll cc hcm
    obtain ⟨pb, po, rfl, hcell⟩ := hr (by omega)
    have hcell := hcell i cc hc
    refine c_fin ?_
    refine c_nx (c_block ?_)
    refine c_rs ?_
    iterate 2 refine qa ?_
    refine qg (run_ixSC _ _ _ _ rfl SlcK.out SizK.out Qv Qv rfl hin _) ?_
    refine qg (run_lodCs (g := inpF cc) ManyK.out (fun j hj => at_below (hcell j hj) H.bel) rfl Qv) ?_
    refine q_al H ?_
    clear H
    intro V1 H z1
    obtain ⟨b5, eb5⟩ : ∃ b5, b5 = W.heap.size := ⟨_, rfl⟩
    rw [← eb5] at H ⊢
    refine q_sp H.a0 stP_whole (ipF_one _ _ _ _ _) ?_
    clear H
    intro V2 H z2
    refine l_nx ?_
    refine c_rs ?_
    refine qa ?_
    refine q_st (u := .slice none 0 0) (g' := ipF cc.rd cc.bad (.slice none 0 0)) H.a0 (ipF_lie _ _ _ _) ?_
    clear H
    intro V3 H z3
    refine l_nx ?_
    refine c_nx ?_
    refine c_rs ?_
    refine qa ?_
    refine l_nx ?_
    refine c_block ?_
    replace H := ((H.add (Below.refl _ _) (manyI (lbJ w.heap.size) []) (fun _ h => absurd h (by simp)) (fun j ⟨_, h, _⟩ => absurd h (by simp))).add (Below.refl _ _) (ownI w.heap.size 78 3 (.slice none 0 0) 0 []) (World.ownsRow_nil _ _ _ _) (fun j e => nomatch e))
    refine c_loop (fun r A W => ∃ (k : Nat) (lo : Option Addr) (lc : Nat) (N : List Lj), k ≤ cc.LL.length ∧ cc.LL.length - k ≤ r ∧ A.tmps.size = 52 ∧ A.defers = [] ∧ A.eval (.tmp 0) = .slice (some ⟨pb, po, none⟩) L.length mc ∧ A.eval (.tmp 3) = u ∧ A.eval (.tmp 4) = .int .i64 (i : Int) ∧ A.eval (.tmp 5) = .pointer (some ⟨b5, 0, none⟩) ∧ A.eval (.tmp 6) = .int .i64 (k : Int) ∧ N.map Lj.y = (cc.LL.map Lj.y).take k ∧ N.length = k ∧ N.length ≤ lc ∧ (∀ d, d ∈ N → d.y.n ≤ 140737488351232 ∧ ∀ i, d.y.g i < 256) ∧ Cx w W [ownI w.heap.size 78 3 (.slice lo N.length lc) N.length (rwS ljF 3 N), manyI (lbJ w.heap.size) N, vhI 43 b5 14 14 (ipF cc.rd cc.bad (.slice lo N.length lc)), ownI w.heap.size 43 14 u M.length (rwS inpF 14 M), manyI (liJ w.heap.size) M]) cc.LL.length
      ⟨0, none, 0, [], Nat.zero_le _, by omega, (szL _ _).trans hs, (defL _ _).trans hd, Qv, Qv, Qv, Qv, Qv, rfl, rfl, Nat.le_refl _, fun _ h => absurd h (by simp), H⟩ (fun r A W2 hI => ?_)
    clear b0 b3 b4 hs hd H
    obtain ⟨k, lo, lc, N, hk, hkr, hs, hd, b0, b3, b4, b5', b6, hN, hNl, hNc, hNo, H⟩ := hI
    refine c_nx ?_
    refine c_rs (m_start ?_)
    iterate 3 refine qa ?_
    refine qg (run_ixSC _ _ _ _ rfl SlcK.out SizK.out Qv Qv rfl hin _) ?_
    refine qa ?_
    have hlie : W2.cell? ⟨pb, po + i * 14 + 13, none⟩ = some (.slice cc.lo cc.LL.length cc.lc) := at_below (hcell 13 (by omega)) H.bel
    refine qg (run_lodR OneK.out hlie rfl Qv) ?_
    iterate 2 refine qa ?_
    refine l_nx ?_
    refine q_if (fun h => ?_) (fun h => ?_)
    · have hkn : k < cc.LL.length := by have := of_decide_eq_true h; omega
      have hd0 := List.getElem?_eq_getElem hkn
      obtain ⟨dd, ed⟩ : ∃ dd, dd = cc.LL[k] := ⟨_, rfl⟩
      rw [← ed] at hd0
      have hlb := hcc.jr.2 dd (List.mem_of_getElem? hd0)
      obtain ⟨qb, qo, eqo, hdc⟩ := hcc.jr.1 (by omega)
      have hdc := hdc k dd hd0
      rw [eqo] at hlie
      refine c_fin ?_
      refine c_nx (c_block ?_)
      refine c_rs ?_
      iterate 2 refine qa ?_
      refine qg (run_ixSC _ _ _ _ rfl SlcK.out SizK.out Qv Qv rfl hin _) ?_
      refine qa ?_
      refine qg (run_lodR OneK.out hlie rfl Qv) ?_
      refine qa ?_
      refine qg (run_ixSC _ _ _ _ rfl SlcK.out SizK.out Qv Qv rfl hkn _) ?_
      refine qg (run_lodCs (g := ljF dd) ManyK.out (fun j hj => at_below (hdc j hj) H.bel) rfl Qv) ?_
      refine q_al H ?_
      clear H
      intro V4 H z4
      refine q_sp H.a0 stP_whole (lyF_one _ _ _ _ _) ?_
      clear H
      intro V5 H z5
      refine l_nx ?_
      refine c_rs ?_
      iterate 2 refine qa ?_
      have hsz := H.size
      refine q_c1 (bytesL_any dd.ao dd.y.n dd.cap (bF dd.y.g) _ (by have := hlb.2.2.1; omega) (fun _ => rfl) (hlb.1.below H.bel)) ?_
      rintro e V6 ⟨v6, rfl, o6, k6⟩
      obtain ⟨a6, c6, rfl, hc6⟩ := rw_slice o6
      refine ⟨_, rfl, ?_⟩
      replace H := H.add k6 (lbJ w.heap.size ⟨dd.y, a6, c6⟩) (rw_base o6 hsz) (fun j e => (o6.lt j e).1)
      refine qa ?_
      refine q_st (u := .slice a6 dd.y.n c6) (g' := ljF ⟨dd.y, a6, c6⟩) H.a1 (lyF_put _ _ _ _) ?_
      clear H
      intro V7 H z7
      refine l_nx ?_
      refine c_region ?_
      iterate 3 refine qa ?_
      refine m_do rfl (wanted_rd rfl) (fun K hK => ?_)
      refine wp_oneG SlcK.out ManyK.out ZerK.out (by decide) (by decide) rfl Qv ?_
      intro V8 m8 k8 z8
      have hsz8 := H.size
      replace H := H.call k8
      refine hK _ _ ?_
      clear hK K
      refine q_ap (bytes := 40) H.a2 (rdc_own (rwS_own1 (B := w.heap.size) (F := ljF) (x := ⟨dd.y, a6, c6⟩) m8 (by omega))) (rwS_one (fun x _ => lyF_one _ _ _ _ _)) (by unfold maxLen; omega) (by omega) ?_
      clear H
      intro v9 V9 H
      have hr9 : World.ownsRow _ _ _ _ _ _ _ := H.o2
      obtain ⟨a9, c9, rfl, hc9⟩ := rw_slice hr9
      refine qa ?_
      refine q_st (u := .slice a9 (N.length + 1) c9) (g' := ipF cc.rd cc.bad (.slice a9 (N.length + 1) c9)) H.a4 (ipF_lie _ _ _ _) ?_
      clear H
      intro V10 H z10
      refine l_finB ?_
      refine c_region ?_
      repeat refine qa ?_
      have eN : (N ++ [(⟨dd.y, a6, c6⟩ : Lj)]).length = N.length + 1 := List.length_append
      refine l_round ⟨cc.LL.length - (k + 1), by omega, k + 1, a9, c9, N ++ [⟨dd.y, a6, c6⟩], by omega, by omega, (szL _ _).trans hs, (defL _ _).trans hd, Qv, Qv, Qv, Qv, Eq.trans Qv (by rw [Int.natCast_add]; rfl), ?_, by rw [eN, hNl], by rw [eN]; exact hc9, fun d hd => ?_, ?_⟩
      · rw [List.map_append, hN, List.take_add_one, List.getElem?_map, hd0]; rfl
      · rcases List.mem_append.1 hd with hd | hd
        · exact hNo d hd
        · rw [List.mem_singleton.1 hd]; exact hlb.2.2
      · rw [eN, rwS_app]
        exact (many_put (f := lbJ w.heap.size) (c := ⟨dd.y, a6, c6⟩) (H.f1.tl.f2.f1)).f1
    · obtain rfl : k = cc.LL.length := by have := of_decide_eq_false h; omega
      refine c_exit (x_out ?_)
      refine c_region ?_
      iterate 2 refine qa ?_
      refine m_do rfl (wanted_rd rfl) (fun K hK => ?_)
      refine wp_oneG SlcK.out ManyK.out ZerK.out (by decide) (by decide) rfl Qv ?_
      intro V8 m8 k8 z8
      have hsz8 := H.size
      replace H := H.call k8
      refine hK _ _ ?_
      clear hK K
      refine q_ap (bytes := 128) H.a3 (rdc_own (rwS_own1 (B := w.heap.size) (F := inpF) (x := ⟨cc.rd, cc.bad, N, lo, lc⟩) m8 (by omega))) (rwS_one (fun x _ => ipF_one _ _ _ _ _)) (by unfold maxLen; omega) (by omega) ?_
      clear H
      intro v9 V9 H
      refine qa ?_
      refine l_finB ?_
      refine c_region ?_
      repeat refine qa ?_
      have hN' : N.map Lj.y = cc.LL.map Lj.y := by rw [hN]; exact List.take_of_length_le (by rw [List.length_map]; exact Nat.le_refl _)
      have ex : Li.x ⟨cc.rd, cc.bad, N, lo, lc⟩ = cc.x := by unfold Li.x; dsimp only; rw [hN']
      have eM : (M ++ [(⟨cc.rd, cc.bad, N, lo, lc⟩ : Li)]).length = M.length + 1 := List.length_append
      refine l_round ⟨L.length - (i + 1), by omega, i + 1, v9, M ++ [⟨cc.rd, cc.bad, N, lo, lc⟩], by omega, by omega, (szL _ _).trans hs, (defL _ _).trans hd, Qv, Qv, Eq.trans Qv (by rw [Int.natCast_add]; rfl), ?_, by rw [eM, hMl], fun d hd => ?_, ?_⟩
      · rw [List.map_append, hM, List.take_add_one, List.getElem?_map, hc]
        show _ ++ [Li.x _] = _ ++ [cc.x]
        rw [ex]
      · rcases List.mem_append.1 hd with hd | hd
        · exact hMo d hd
        · rw [List.mem_singleton.1 hd]; exact ⟨by rw [ex]; exact hcc.ip, hNc, hNo⟩
      · rw [eM, rwS_app]
        exact (many_put (f := liJ w.heap.size) (c := ⟨cc.rd, cc.bad, N, lo, lc⟩) (H.merge.f1.tl.f2.f1)).f1
  · obtain rfl : i = L.length := by have := of_decide_eq_false h; omega
    refine c_exit (x_out ?_)
    refine c_rs ?_
    iterate 2 refine qa ?_
    refine l_nx ?_
    have hrow : World.ownsRow _ _ _ _ _ _ _ := H.o0
    obtain ⟨mo', mc', rfl, hmc⟩ := rw_slice hrow
    have hmn : (manyI (liJ w.heap.size) M).p W := H.o1
    exact c_ret (ret_of ((defL _ _).trans hd) (res_t rfl Qv) ⟨mo', mc', M, rfl, by rw [hM]; exact List.take_of_length_le (by rw [List.length_map]; exact Nat.le_refl _), rdS_own hrow (by decide), fun c hc => ⟨(hMo c hc).1, li_rd (hmn c hc) (hMo c hc).2.2, (hMo c hc).2.1⟩, H.bel⟩)

end Go.Proofs.YthimcecbgpamdaaGreat

namespace Go.Proofs.YthimcecbgpamdaaGreat
open Go.RowKit

theorem rnF_len {t : Tn} {L : List Li} : (rnF t (L.map Li.x)).r.length ≤ 800 := by
  by_cases hl : L.length ≤ 200
  · have key : ∀ (l : List Ip) (s : Rn), (l.foldl rnS s).r.length ≤ s.r.length + 4 * l.length := by
      intro l
      induction l with
      | nil => intro s; exact Nat.le_refl _
      | cons x l ih =>
        intro s
        have h1 := ih (rnS s x)
        have h2 : (rnS s x).r.length ≤ s.r.length + 4 := by
          unfold rnS
          split
          · split
            · have := frR_len x s.c
              rw [List.length_append]
              omega
            · exact Nat.zero_le _
          · omega
        show (l.foldl rnS (rnS s x)).r.length ≤ s.r.length + 4 * (l.length + 1)
        omega
    unfold rnF
    rw [if_neg (by rw [List.length_map]; omega)]
    have := key (L.map Li.x) ⟨begC t, [], 0⟩
    rw [List.length_map] at this
    have e0 : (⟨begC t, [], 0⟩ : Rn).r.length = 0 := rfl
    omega
  · unfold rnF
    rw [if_pos (by rw [List.length_map]; omega)]
    exact Nat.zero_le _
theorem rnF_vA {w : World} {t : Tn} {L : List Li} (ht : t.Ok) (hok : ∀ c, c ∈ L → LiOK w c) (i : Nat) (hi : i < 4) : ((rnF t (L.map Li.x)).c.nd i).vA.length ≤ 140737488351232 := by
  have key : ∀ (l : List Ip) (s : Rn), (∀ x, x ∈ l → IpOK x) → ((s.e = 0 → ClsOK s.c) ∧ (s.e ≠ 0 → s.c = zeroC)) → (((l.foldl rnS s).e = 0 → ClsOK (l.foldl rnS s).c) ∧ ((l.foldl rnS s).e ≠ 0 → (l.foldl rnS s).c = zeroC)) := by
    intro l
    induction l with
    | nil => intro s _ h; exact h
    | cons x l ih =>
      intro s hx h
      refine ih (rnS s x) (fun y hy => hx y (List.mem_cons_of_mem _ hy)) ?_
      unfold rnS
      split
      · rename_i h0
        split
        · exact ⟨fun _ => frC_ok (hx x List.mem_cons_self) (h.1 h0), fun h1 => absurd rfl h1⟩
        · rename_i h1
          exact ⟨fun h2 => absurd h2 h1, fun _ => rfl⟩
      · exact h
  have hz : (zeroC.nd i).vA.length ≤ 140737488351232 := Nat.zero_le _
  unfold rnF
  split
  · exact hz
  · have h := key (L.map Li.x) ⟨begC t, [], 0⟩ (fun x hx => by
      obtain ⟨c, hc, rfl⟩ := List.mem_map.1 hx
      exact (hok c hc).ip) ⟨fun _ => begC_ok ht, fun h => absurd rfl h⟩
    by_cases e : ((L.map Li.x).foldl rnS ⟨begC t, [], 0⟩).e = 0
    · exact ((h.1 e).2 i hi).vA
    · rw [h.2 e]; exact hz
set_option maxRecDepth 10000 in
set_option maxHeartbeats 4000000 in
theorem clusterRuns_any {w : World} (t : Tn) (mo : Option Addr) (mc : Nat) (L : List Li) (ht : t.Ok) (hr : RdS inpF 14 w mo L) (hok : ∀ c, c ∈ L → LiOK w c) (hln : L.length * 128 ≤ 140737488351232) (hll : ∀ c, c ∈ L → c.LL.length * 40 ≤ 140737488351232) :
    Calls Tryz.prog 4 #[agV (ntnF t) 0 4, .slice mo L.length mc] w fun e w' => e = .returned (.bool true) ∧ Below w.heap.size w w' := by
  refine enterF Tryz.func4 rfl 39 rfl (of_decide_eq_true rfl) (fun A hs hd hb => ?_)
  have b0 : A.eval (.tmp 0) = agV (ntnF t) 0 4 := hb 0 _ rfl
  have b1 : A.eval (.tmp 1) = .slice mo L.length mc := hb 1 _ rfl
  clear hb
  have H := Cx.start w
  refine c_rs (m_start ?_)
  refine q_box H ?_
  clear H
  intro w1 H z1
  refine qa ?_
  refine l_nx ?_
  obtain ⟨F, eF⟩ : ∃ F, F = rnF t (L.map Li.x) := ⟨_, rfl⟩
  have hFl : F.r.length ≤ 800 := by rw [eF]; exact rnF_len
  replace H := H.drew
  have hS : (fun W' => Below w1.drew.heap.size w1.drew W') w1.drew := Below.refl _ _
  have hc2 : ∀ q, q < 4 → w1.drew.cell? ⟨w.heap.size, 0 + q, none⟩ = some (ntnF t q) := fun q hq => H.v0.cellz hq
  have hIn : ∀ U, Below w1.drew.heap.size w1.drew U → Calls Tryz.prog 7 #[.slice mo L.length mc] U _ := fun U k => inputs_any mo mc L U (hr.below (H.call k).bel) (fun c hc => (hok c hc).below (H.call k).bel) hln hll
  have hRu : ∀ (U : World) (mo' : Option Addr) (mc' : Nat) (L' : List Li), L'.map Li.x = L.map Li.x → RdS inpF 14 U mo' L' → (∀ c, c ∈ L' → LiOK U c) → Calls Tryz.prog 12 #[agV (ntnF t) 0 4, .slice mo' L'.length mc'] U fun e w' => ∃ (D : Nat → Nd × Ad) (v : Value), e = .returned (.tuple #[agV (clG F.c.fr D) 0 297, v, .int .i64 F.e]) ∧ (∀ i, i < 4 → (D i).1 = F.c.nd i) ∧ Cx U w' [ownI U.heap.size 86 14 v F.r.length (rwS rpF 14 F.r), agI U.heap.size D] := fun U mo' mc' L' e h1 h2 => by
    have := clRun_ok t mo' mc' L' U ht h1 h2
    rw [e, ← eF] at this
    exact this
  have hszw := H.size
  refine c_midS (fun A W' => ∃ (b5 : Nat) (D : Nat → Nd × Ad) (v : Value), A.tmps.size = 39 ∧ A.defers = [] ∧ A.eval (.tmp 1) = .slice mo L.length mc ∧ A.eval (.tmp 2) = .pointer (some ⟨w.heap.size, 0, none⟩) ∧ A.eval (.tmp 5) = .pointer (some ⟨b5, 0, none⟩) ∧ A.eval (.tmp 6) = v ∧ A.eval (.tmp 7) = .int .i64 F.e ∧ (∀ i, i < 4 → (D i).1 = F.c.nd i) ∧ Cx w W' [vhI 40 b5 297 297 (clG F.c.fr D), ownI w.heap.size 86 14 v F.r.length (rwS rpF 14 F.r), agI w.heap.size D, vhI 23 w.heap.size 4 4 (ntnF t)]) (fun hT => ?_) (fun A V hT => ?_)
  · refine c_rj (S := fun W' => Below w1.drew.heap.size w1.drew W') (.rd 0 (.mv 1 (.two 2 8 (.two 3 8 (.mv 4 (.mv 5 (.mv 6 (.mv 7 (.go 8 (.go 9 (.mv 10 (.mv 11 .fin)))))))) (.go 3 (.mv 4 (.mv 5 (.mv 6 (.mv 7 (.go 9 (.mv 10 (.mv 11 .fin))))))))) (.go 2 (.go 3 (.mv 4 (.mv 5 (.mv 6 (.mv 7 (.go 9 (.mv 10 (.mv 11 .fin)))))))))))) [] (by kernel_rfl) (by kernel_rfl) ?_
    refine j_rd rfl rfl (fun _ _ _ h => h) (wanted_rd rfl) hS (fun _ H => run_lodCs (g := ntnF t) ManyK.out (fun q hq => at_below (hc2 q hq) H) rfl Qv) ?_
    refine qj ?_
    refine sJ_cut (r := .go 9 (.mv 10 (.mv 11 .fin))) (fun A W' => ∃ (b5 : Nat) (D : Nat → Nd × Ad) (v : Value), A.tmps.size = 39 ∧ A.defers = [] ∧ A.eval (.tmp 1) = .slice mo L.length mc ∧ A.eval (.tmp 2) = .pointer (some ⟨w.heap.size, 0, none⟩) ∧ A.eval (.tmp 5) = .pointer (some ⟨b5, 0, none⟩) ∧ A.eval (.tmp 16) = agV (clG F.c.fr D) 0 297 ∧ A.eval (.tmp 17) = v ∧ A.eval (.tmp 18) = .int .i64 F.e ∧ (∀ i, i < 4 → (D i).1 = F.c.nd i) ∧ w1.drew.heap.size ≤ b5 ∧ Below w1.drew.heap.size w1.drew W' ∧ Cx w W' [vhI 40 b5 297 297 (clF 0 (fun _ => zeroN) (fun _ => slV (none, 0) 0)), ownI w.heap.size 86 14 v F.r.length (rwS rpF 14 F.r), agI w.heap.size D, vhI 23 w.heap.size 4 4 (ntnF t)]) (fun A U hT' => ?_) (fun hT' => ?_)
    · clear b0 b1 hs hd H hS
      obtain ⟨b5, D, v, hs, hd, b1, b2, b5', b16, b17, b18, hD, hb5, kU, H⟩ := hT'
      refine j_start ?_
      refine j_st rfl (wanted_rd rfl) (fun K0 hK => ?_)
      refine wp_storeP _ _ _ _ rfl ManyK.out Qv Qv H.v0 (by omega) (clG_one _ _) rfl ?_
      intro U2 m2 k2 z2'
      replace H := H.a0.s k2 (m2.congr stP_whole)
      refine hK _ (fun _ _ => below_of_kept kU k2 hb5 kU.size) ?_
      clear hK K0
      iterate 2 refine qj ?_
      exact j_nx (hT _ _ ⟨b5, D, v, (szL _ _).trans hs, (defL _ _).trans hd, Qv, Qv, Qv, Qv, Qv, hD, H⟩)
    refine j_two ?_ ?_
    · refine j_do rfl rfl (wanted_rd rfl) (fun K0 hK => ?_)
      refine wp_call1 _ _ _ _ rfl Qv (EntK.out _ _) (hIn _ (Below.refl _ _)) ?_
      rintro e U ⟨mo', mc', L', rfl, hx', hr', ho', kU⟩
      refine ⟨_, rfl, hK _ _ (fun _ h => h.trans (kU.mono h.size)) ?_⟩
      clear hK K0
      replace H := H.call kU
      refine j_two ?_ ?_
      · refine j_do rfl rfl (wanted_rd rfl) (fun K0 hK => ?_)
        refine wp_call2 _ _ _ _ _ rfl Qv Qv (EntK.out _ _) (hRu U mo' mc' L' hx' hr' ho') ?_
        rintro e U3 ⟨D, v, rfl, hD, G⟩
        have kG := G.bel
        refine ⟨_, rfl, hK _ _ (fun _ h => h.trans (kG.mono h.size)) ?_⟩
        clear hK K0
        have hsU := H.size
        replace H := ownI_base (agI_base (H.plus G).f1 hsU).f1 hsU
        refine qj ?_
        refine j_mv rfl rfl (fun _ _ _ h => h) (wanted_rd rfl) (fun w => run_ext3A _ rfl Qv w) ?_
        refine j_mv rfl rfl (fun _ _ _ h => h) (wanted_rd rfl) (fun w => run_ext3B _ rfl Qv w) ?_
        refine j_mv rfl rfl (fun _ _ _ h => h) (wanted_rd rfl) (fun w => run_ext3C _ rfl Qv w) ?_
        refine j_do rfl rfl (wanted_rd rfl) (fun K0 hK => ?_)
        refine wp_allocG _ _ rfl ZerK.out (of_decide_eq_true rfl) ?_
        intro U1 m1 k1 z1'
        refine hK _ _ (fun _ h => h.trans (k1.mono h.size)) ?_
        clear hK K0
        replace H := H.add k1 (vhI _ _ _ _ _) m1 (fun j (e : j = _) => Nat.le_of_eq e.symm)
        have kA := kU.trans (kG.mono kU.size)
        exact hT' _ _ ⟨_, D, v, (szL _ _).trans hs, (defL _ _).trans hd, Qv, Qv, Qv, Qv, Qv, Qv, hD, kA.size, kA.trans (k1.mono kA.size), H⟩
      · refine j_do rfl rfl (wanted_rd rfl) (fun K0 hK => ?_)
        refine wp_allocG _ _ rfl ZerK.out (of_decide_eq_true rfl) ?_
        intro U1 m1 k1 z1'
        refine hK _ _ (fun _ h => h.trans (k1.mono h.size)) ?_
        clear hK K0
        replace H := H.add k1 (vhI _ _ _ _ _) m1 (fun j (e : j = _) => Nat.le_of_eq e.symm)
        refine j_do rfl rfl (wanted_rd rfl) (fun K0 hK => ?_)
        refine wp_call2 _ _ _ _ _ rfl Qv Qv (EntK.out _ _) (hRu U1 mo' mc' L' hx' (hr'.below k1) (fun c hc => (ho' c hc).below k1)) ?_
        rintro e U3 ⟨D, v, rfl, hD, G⟩
        have kG := G.bel
        refine ⟨_, rfl, hK _ _ (fun _ h => h.trans (kG.mono h.size)) ?_⟩
        clear hK K0
        have hsU := H.size
        replace H := ownI_base (agI_base (H.plus G).f1 hsU).f1 hsU
        refine qj ?_
        refine j_mv rfl rfl (fun _ _ _ h => h) (wanted_rd rfl) (fun w => run_ext3A _ rfl Qv w) ?_
        refine j_mv rfl rfl (fun _ _ _ h => h) (wanted_rd rfl) (fun w => run_ext3B _ rfl Qv w) ?_
        refine j_mv rfl rfl (fun _ _ _ h => h) (wanted_rd rfl) (fun w => run_ext3C _ rfl Qv w) ?_
        have kA := (kU.trans (k1.mono kU.size))
        exact hT' _ _ ⟨_, D, v, (szL _ _).trans hs, (defL _ _).trans hd, Qv, Qv, Qv, Qv, Qv, Qv, hD, kU.size, kA.trans (kG.mono kA.size), H.f2⟩
    · refine j_do rfl rfl (wanted_rd rfl) (fun K0 hK => ?_)
      refine wp_allocG _ _ rfl ZerK.out (of_decide_eq_true rfl) ?_
      intro U1 m1 k1 z1'
      refine hK _ _ (fun _ h => h.trans (k1.mono h.size)) ?_
      clear hK K0
      refine j_do rfl rfl (wanted_rd rfl) (fun K0 hK => ?_)
      refine wp_call1 _ _ _ _ rfl Qv (EntK.out _ _) (hIn _ k1) ?_
      rintro e U ⟨mo', mc', L', rfl, hx', hr', ho', kU⟩
      refine ⟨_, rfl, hK _ _ (fun _ h => h.trans (kU.mono h.size)) ?_⟩
      clear hK K0
      replace H := (H.add k1 (vhI _ _ _ _ _) m1 (fun j (e : j = _) => Nat.le_of_eq e.symm)).call kU
      refine j_do rfl rfl (wanted_rd rfl) (fun K0 hK => ?_)
      refine wp_call2 _ _ _ _ _ rfl Qv Qv (EntK.out _ _) (hRu U mo' mc' L' hx' hr' ho') ?_
      rintro e U3 ⟨D, v, rfl, hD, G⟩
      have kG := G.bel
      refine ⟨_, rfl, hK _ _ (fun _ h => h.trans (kG.mono h.size)) ?_⟩
      clear hK K0
      have hsU := H.size
      replace H := ownI_base (agI_base (H.plus G).f1 hsU).f1 hsU
      refine qj ?_
      refine j_mv rfl rfl (fun _ _ _ h => h) (wanted_rd rfl) (fun w => run_ext3A _ rfl Qv w) ?_
      refine j_mv rfl rfl (fun _ _ _ h => h) (wanted_rd rfl) (fun w => run_ext3B _ rfl Qv w) ?_
      refine j_mv rfl rfl (fun _ _ _ h => h) (wanted_rd rfl) (fun w => run_ext3C _ rfl Qv w) ?_
      have kA := (k1.trans (kU.mono k1.size))
      exact hT' _ _ ⟨_, D, v, (szL _ _).trans hs, (defL _ _).trans hd, Qv, Qv, Qv, Qv, Qv, Qv, hD, Nat.le_refl _, kA.trans (kG.mono kA.size), H.f2⟩
  clear b0 b1 hs hd H hS hIn hRu hc2
  obtain ⟨b5, D, v, hs, hd, b1, b2, b5', b6, b7, hD, H⟩ := hT
  refine c_rs (m_start ?_)
  iterate 2 refine qa ?_
  have hRf := refRun_ok t mo mc L V ht (hr.below H.bel) (fun c hc => (hok c hc).below H.bel)
  rw [← eF] at hRf
  refine q_c2 hRf ?_
  rintro e V1 ⟨E, u, rfl, hE, G⟩
  refine ⟨_, rfl, ?_⟩
  replace H := H.plus G
  refine qa ?_
  refine qg (run_ext3A _ rfl Qv _) ?_
  refine qg (run_ext3B _ rfl Qv _) ?_
  refine qg (run_ext3C _ rfl Qv _) ?_
  refine q_al H ?_
  clear H
  intro V2 H z2
  refine q_sp H.a0 stP_whole (clG_one _ _) ?_
  clear H
  intro V3 H z3
  iterate 2 refine qa ?_
  refine l_nx ?_
  have rd : ∀ (B : Nat) (D : Nat → Nd × Ad), (agI B D).p V3 → ∀ i, i < 4 → AgRd V3 (D i).1 (D i).2.1 (D i).2.2 := fun B D h i hi => by
    have ho : World.ownsRow _ _ _ _ _ _ _ := h i hi
    obtain ⟨a3, c3, e, hs3, _⟩ := owns_sr ho
    cases e
    exact hs3
  have hv : World.ownsRow _ _ _ _ _ _ _ := H.o4
  have hu : World.ownsRow _ _ _ _ _ _ _ := H.o1
  obtain ⟨va, vc, rfl, _⟩ := rw_slice hv
  obtain ⟨ua, uc, rfl, _⟩ := rw_slice hu
  have hlen : ∀ i, i < 4 → (D i).1.vA.length ≤ 140737488351232 := fun i hi => by rw [hD i hi, eF]; exact rnF_vA ht hok i hi
  have hSC := refSameCluster_any F.c.fr D E V3 (fun i hi => by rw [hE i hi, hD i hi]) (rd _ D H.o5) (rd _ E H.o2) hlen
  refine c_rs ?_
  iterate 2 refine qa ?_
  refine qg (run_eqlE (b := true) _ _ rfl Qv Qv (decide_eq_true rfl) _) ?_
  refine qa ?_
  iterate 2 refine qa ?_
  refine m_do rfl (wanted_g rfl rfl rfl Qv) (fun K0 hK => ?_)
  refine wp_call2 _ _ _ _ _ rfl Qv Qv (EntK.out _ _) hSC ?_
  rintro e V4 ⟨rfl, k4⟩
  refine ⟨_, rfl, hK _ _ ?_⟩
  clear hK K0
  refine qg (run_pickT' _ _ _ rfl Qv Qv _) ?_
  iterate 3 refine qa ?_
  refine m_do rfl (wanted_g rfl rfl rfl Qv) (fun K0 hK => ?_)
  refine wp_call2 _ _ _ _ _ rfl Qv Qv (EntK.out _ _) (refSameReports_any F.r va ua vc uc V4 ((rdS_own hv (by decide)).below k4) ((rdS_own hu (by decide)).below k4) (by omega)) ?_
  rintro e V5 ⟨rfl, k5⟩
  refine ⟨_, rfl, hK _ _ ?_⟩
  clear hK K0
  replace H := (H.call k4).call k5
  refine qg (run_pickT' _ _ _ rfl Qv Qv _) ?_
  refine qa ?_
  refine l_nx ?_
  exact c_ret (ret_of ((defL _ _).trans hd) (res_t rfl Qv) ⟨rfl, H.bel⟩)

theorem clusterRuns_walk {w : World} (t : Tn) (mo : Option Addr) (mc : Nat) (L : List Li) (ht : t.Ok) (hr : RdS inpF 14 w mo L) (hok : ∀ c, c ∈ L → LiOK w c ∧ c.LL.length * 40 ≤ 140737488351232) (hln : L.length * 128 ≤ 140737488351232) :
    Calls Tryz.prog 4 #[agV (ntnF t) 0 4, .slice mo L.length mc] w fun e w' => e = .returned (.bool true) ∧ Below w.heap.size w w' := clusterRuns_any t mo mc L ht hr (fun c hc => (hok c hc).1) hln (fun c hc => (hok c hc).2)

end Go.Proofs.YthimcecbgpamdaaGreat
