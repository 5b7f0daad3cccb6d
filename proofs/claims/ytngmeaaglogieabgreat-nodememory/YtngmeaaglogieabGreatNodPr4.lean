/- Contracts of the program: hear. -/
import Derived.Test.YtngmeaaglogieabGreatNear75
import Derived.Test.YtngmeaaglogieabGreatNear72
namespace Go.Proofs.YtngmeaaglogieabGreat
open Go.RowKit

/-- What is heard of each node, as a list. -/
def hrO (id fr : Int) (L : List Lm) (kind many : Int) (s : Nat) : Value := match fL id fr L (s : Int) kind many with | some c => lmV c | none => .slice none 0 0
theorem hrO_one (id fr : Int) (L : List Lm) (kind many : Int) : ∀ j, j < 4 → (hrO id fr L kind many j).oneCell' = true := by
  intro j _
  unfold hrO lmV
  split <;> rfl
theorem take_snoc {L : List Lm} {i : Nat} {c : Lm} (hc : L[i]? = some c) : L.take (i + 1) = L.take i ++ [c] := by rw [List.take_add_one, hc]; rfl
theorem fL_snoc {id fr s kind many : Int} {L : List Lm} {c : Lm} : fL id fr (L ++ [c]) s kind many = (fL id fr L s kind many).or (if fitB id fr s kind many c.m then some c else none) := by
  unfold fL
  rw [List.find?_append, List.find?_cons]
  congr 1
  cases h : fitB id fr s kind many c.m
  · rfl
  · rfl
theorem hr_keep {id fr kind many : Int} {L : List Lm} {c : Lm} (h : ∀ s : Nat, s < 4 → fitB id fr (s : Int) kind many c.m = false ∨ (fL id fr L (s : Int) kind many).isSome = true) : ∀ j, j < 4 → hrO id fr L kind many j = hrO id fr (L ++ [c]) kind many j := by
  intro j hj
  unfold hrO
  rw [fL_snoc]
  rcases h j hj with e | e
  · rw [e]
    cases fL id fr L (j : Int) kind many <;> rfl
  · cases h2 : fL id fr L (j : Int) kind many with
    | none => rw [h2] at e; cases e
    | some x => rfl
theorem hr_set {id fr kind many : Int} {L : List Lm} {c : Lm} {f : Nat} (hF : c.m.F = (f : Int)) (hn : fL id fr L (f : Int) kind many = none) (hfit : fitB id fr (f : Int) kind many c.m = true) : ∀ j, j < 4 → stW (hrO id fr L kind many) (0 + f * 1) (lmV c) j = hrO id fr (L ++ [c]) kind many j := by
  intro j hj
  by_cases e : j = 0 + f * 1
  · subst e
    rw [stW_same]
    unfold hrO
    rw [fL_snoc, Nat.zero_add, Nat.mul_one, hn, hfit]
    rfl
  · rw [stW_other _ _ e]
    unfold hrO
    rw [fL_snoc]
    have e2 : fitB id fr (j : Int) kind many c.m = false := by unfold fitB; rw [decide_eq_false (show ¬ c.m.F = (j : Int) by omega)]; simp
    rw [e2]
    cases fL id fr L (j : Int) kind many <;> rfl
set_option maxHeartbeats 2000000 in
theorem hear_any (n : Nd) (nv : Value) (mo : Option Addr) (mc : Nat) (L : List Lm) (kind many : Int) (w : World) (hr : MRd w mo L) (hN : L.length ≤ 140737488351232) (hm : 0 < many) :
    Calls Tryz.prog 15 #[ndV n nv, .slice mo L.length mc, .int .i64 kind, .int .i64 many] w fun e w' => e = .returned (agV (hrO n.id n.fr L kind many) 0 4) ∧ Below w.heap.size w w' := by
  refine enterF Tryz.func15 rfl 65 rfl (of_decide_eq_true rfl) (fun A hs hd hb => ?_)
  have b0 := hb 0 _ rfl
  have b1 := hb 1 _ rfl
  have b2 := hb 2 _ rfl
  have b3 := hb 3 _ rfl
  clear hb
  refine c_rs (m_start ?_)
  refine m_do rfl (wanted_rd rfl) (fun K hK => ?_)
  refine wp_boxG _ _ _ rfl (ev_out rfl b0) (of_decide_eq_true rfl) ?_
  intro w1 m1 k1 z1
  refine hK _ _ ?_
  clear hK K
  refine m_do rfl (wanted_rd rfl) (fun K hK => ?_)
  refine wp_allocG _ _ rfl zeroHr (of_decide_eq_true rfl) ?_
  intro w2 m2 k2 z2
  have mn2 := m1.below k2
  refine hK _ _ ?_
  clear hK K
  refine l_nx ?_
  refine c_rs ?_
  refine m_do rfl (wanted_rd rfl) (fun K hK => ?_)
  refine wp_allocG _ _ rfl zeroHr (of_decide_eq_true rfl) ?_
  intro w3 m3 k3 z3
  have mn3 := mn2.below k3
  have mr3 := m2.below k3
  refine hK _ _ ?_
  clear hK K
  refine l_nx ?_
  refine c_nx ?_
  refine c_rs ?_
  refine m_mv rfl (wanted_rd rfl) (run_move _ rfl (ev_out rfl b1) _) ?_
  refine m_mv rfl (wanted_rd rfl) (run_lenM _ rfl (ev_in rfl (by omega)) _) ?_
  refine m_mv rfl (wanted_rd rfl) (run_move _ rfl (ev_const _ _) _) ?_
  refine l_nx ?_
  refine c_block ?_
  refine c_loop (fun r a W => ∃ i : Nat, i ≤ L.length ∧ L.length - i ≤ r ∧ a.tmps.size = 65 ∧ a.defers = [] ∧ a.eval (.tmp 2) = .int .i64 kind ∧ a.eval (.tmp 3) = .int .i64 many ∧ a.eval (.tmp 4) = .pointer (some ⟨w.heap.size, 0, none⟩) ∧ a.eval (.tmp 8) = .pointer (some ⟨w1.heap.size, 0, none⟩) ∧ a.eval (.tmp 9) = .pointer (some ⟨w2.heap.size, 0, none⟩) ∧ a.eval (.tmp 13) = .slice mo L.length mc ∧ a.eval (.tmp 14) = .int .i64 (L.length : Int) ∧ a.eval (.tmp 15) = .int .i64 (i : Int) ∧ Vh 37 W w.heap.size 74 74 (ndF n nv) ∧ Vh 59 W w1.heap.size 4 4 (fun _ => .slice none 0 0) ∧ Vh 59 W w2.heap.size 4 4 (hrO n.id n.fr (L.take i) kind many) ∧ Below w.heap.size w W ∧ w3.heap.size ≤ W.heap.size) L.length ⟨0, Nat.zero_le _, by omega, (szL _ _).trans hs, (defL _ _).trans hd, (ev_out rfl b2), (ev_out rfl b3), (ev_in rfl (by omega)), (ev_in rfl (by omega)), (ev_in rfl (by omega)), (ev_in rfl (by omega)), (ev_in rfl (by omega)), (ev_in rfl (by omega)), mn3, mr3, m3, (k1.trans (k2.mono (by omega))).trans (k3.mono (by omega)), by omega⟩ (fun r B W hI => ?_)
  clear b0 b1 b2 b3 hs hd
  obtain ⟨i, hi, hr2, hs, hd, b2, b3, b4, b8, b9, b13, b14, b15, mn, mr, mh, kB, hW⟩ := hI
  by_cases hin : i < L.length
  · have hc := List.getElem?_eq_getElem hin
    obtain ⟨c, ec⟩ : ∃ c, c = L[i] := ⟨_, rfl⟩
    rw [← ec] at hc
    obtain ⟨bl, of, rfl, hq⟩ := (hr.below kB).1 (by omega)
    have hcell := hq i c hc
    by_cases h1 : c.m.K = kind
    · by_cases h2 : c.m.R = n.fr
      · by_cases h3 : (c.m.L.length : Int) = many
        · rcases h4 : noN c.m.F with _ | _
          · obtain ⟨f, hF, hf4⟩ : ∃ f : Nat, c.m.F = (f : Int) ∧ f < 4 := ⟨c.m.F.toNat, by have := noN_in h4; omega, by have := noN_in h4; omega⟩
            by_cases h5 : c.m.F ≠ n.id
            · rcases hfl : fL n.id n.fr (L.take i) (f : Int) kind many with _ | c2
              · have hfit : fitB n.id n.fr (f : Int) kind many c.m = true := by unfold fitB; rw [decide_eq_true hF, decide_eq_true h5, decide_eq_true h1, decide_eq_true h2, decide_eq_true h3]; rfl
                have hho : hrO n.id n.fr (L.take i) kind many (0 + f * 1) = .slice none 0 0 := by unfold hrO; rw [Nat.zero_add, Nat.mul_one, hfl]
                refine c_rs (m_start ?_)
                refine m_mv rfl (wanted_rd rfl) (run_lssI (b := true) _ _ rfl (ev_out rfl b15) (ev_out rfl b14) (decide_eq_true (by omega)) _) ?_
                refine l_nx ?_
                refine c_nx (c_true (ev_in rfl (by omega)) (c_fin ?_))
                refine c_nx (c_block ?_)
                refine c_rs ?_
                refine m_mv rfl (wanted_rd rfl) (run_ixM _ _ rfl (ev_out rfl b13) (ev_out rfl b15) rfl hin _) ?_
                refine m_mv rfl (wanted_rd rfl) (run_lodM _ rfl (ev_in rfl (by omega)) hcell) ?_
                refine m_do rfl (wanted_rd rfl) (fun K hK => ?_)
                refine wp_allocG _ _ rfl zeroMs (of_decide_eq_true rfl) ?_
                intro w4 m4 k4 z4
                have mn4 := mn.below k4
                have mr4 := mr.below k4
                have mh4 := mh.below k4
                refine hK _ _ ?_
                clear hK K
                refine m_st (wanted_rd rfl) (fun K hK => ?_)
                refine wp_storeP _ _ _ _ rfl manyMs (ev_in rfl (by omega)) (ev_in rfl (by omega)) m4 (by decide) (lmF_one _) rfl ?_
                intro w5 mm5 k5 z5
                have mm5 := Vh.congr mm5 (stP_all4 _ _)
                have mn5 := mn4.kept k5 (by omega)
                have mr5 := mr4.kept k5 (by omega)
                have mh5 := mh4.kept k5 (by omega)
                refine hK _ ?_
                clear hK K
                refine l_nx ?_
                refine c_rs ?_
                refine m_mv rfl (wanted_rd rfl) (fldMs0 rfl (ev_in rfl (by omega)) _) ?_
                refine m_mv rfl (wanted_rd rfl) (run_lod1 _ _ rfl oneI (ev_in rfl (by omega)) mm5 (by decide) rfl) ?_
                refine m_mv rfl (wanted_rd rfl) (run_move _ rfl (ev_out rfl b2) _) ?_
                refine m_mv rfl (wanted_rd rfl) (run_eqlI (b := true) _ _ rfl (ev_in rfl (by omega)) (ev_in rfl (by omega)) (decide_eq_true h1) _) ?_
                refine m_mv rfl (wanted_rd rfl) (run_move _ rfl (ev_in rfl (by omega)) _) ?_
                refine m_mv rfl (wanted_g (j := 4) rfl rfl rfl (ev_in rfl (by omega))) (fldMs2 rfl (ev_in rfl (by omega)) _) ?_
                refine m_mv rfl (wanted_g (j := 4) rfl rfl rfl (ev_in rfl (by omega))) (run_lod1 _ _ rfl oneI (ev_in rfl (by omega)) mm5 (by decide) rfl) ?_
                refine m_mv rfl (wanted_g (j := 4) rfl rfl rfl (ev_in rfl (by omega))) (fldNd1 rfl (ev_out rfl b4) _) ?_
                refine m_mv rfl (wanted_g (j := 4) rfl rfl rfl (ev_in rfl (by omega))) (run_lod1 _ _ rfl oneI (ev_in rfl (by omega)) mn5 (by decide) rfl) ?_
                refine m_mv rfl (wanted_g (j := 4) rfl rfl rfl (ev_in rfl (by omega))) (run_eqlI (b := true) _ _ rfl (ev_in rfl (by omega)) (ev_in rfl (by omega)) (decide_eq_true h2) _) ?_
                refine m_mv rfl (wanted_rd rfl) (run_pickT' _ _ _ rfl (ev_in rfl (by omega)) (ev_in rfl (by omega)) _) ?_
                refine m_mv rfl (wanted_rd rfl) (run_move _ rfl (ev_in rfl (by omega)) _) ?_
                refine m_mv rfl (wanted_g (j := 11) rfl rfl rfl (ev_in rfl (by omega))) (fldMs3 rfl (ev_in rfl (by omega)) _) ?_
                refine m_mv rfl (wanted_g (j := 11) rfl rfl rfl (ev_in rfl (by omega))) (run_lod1 _ _ rfl oneIs (ev_in rfl (by omega)) mm5 (by decide) rfl) ?_
                refine m_mv rfl (wanted_g (j := 11) rfl rfl rfl (ev_in rfl (by omega))) (run_lenI _ rfl (ev_in rfl (by omega)) _) ?_
                refine m_mv rfl (wanted_g (j := 11) rfl rfl rfl (ev_in rfl (by omega))) (run_move _ rfl (ev_out rfl b3) _) ?_
                refine m_mv rfl (wanted_g (j := 11) rfl rfl rfl (ev_in rfl (by omega))) (run_eqlI (b := true) _ _ rfl (ev_in rfl (by omega)) (ev_in rfl (by omega)) (decide_eq_true h3) _) ?_
                refine m_mv rfl (wanted_rd rfl) (run_pickT' _ _ _ rfl (ev_in rfl (by omega)) (ev_in rfl (by omega)) _) ?_
                refine m_mv rfl (wanted_rd rfl) (run_assign _ rfl (ev_in rfl (by omega)) _) ?_
                refine l_nx ?_
                refine c_rs ?_
                refine m_mv rfl (wanted_rd rfl) (run_move _ rfl (ev_in rfl (by omega)) _) ?_
                refine m_mv rfl (wanted_rd rfl) (run_move _ rfl (ev_in rfl (by omega)) _) ?_
                refine m_mv rfl (wanted_g (j := 1) rfl rfl rfl (ev_in rfl (by omega))) (fldMs1 rfl (ev_in rfl (by omega)) _) ?_
                refine m_mv rfl (wanted_g (j := 1) rfl rfl rfl (ev_in rfl (by omega))) (run_lod1 _ _ rfl oneI (ev_in rfl (by omega)) mm5 (by decide) rfl) ?_
                refine m_do rfl (wanted_g (j := 1) rfl rfl rfl (ev_in rfl (by omega))) (fun K hK => ?_)
                have C1 := isNode_any c.m.F w5
                rw [h4] at C1
                refine wp_call1 _ 14 _ _ rfl (ev_in rfl (by omega)) (enter_pisNode _ _) C1 ?_
                rintro e w6 ⟨rfl, k6⟩
                have n6 := k6.size
                have mn6 := mn5.below k6
                have mr6 := mr5.below k6
                have mh6 := mh5.below k6
                have mm6 := mm5.below k6
                refine ⟨_, rfl, ?_⟩
                refine hK _ _ ?_
                clear hK K
                refine m_mv rfl (wanted_rd rfl) (run_pickT' _ _ _ rfl (ev_in rfl (by omega)) (ev_in rfl (by omega)) _) ?_
                refine m_mv rfl (wanted_rd rfl) (run_move _ rfl (ev_in rfl (by omega)) _) ?_
                refine m_mv rfl (wanted_g (j := 6) rfl rfl rfl (ev_in rfl (by omega))) (fldMs1 rfl (ev_in rfl (by omega)) _) ?_
                refine m_mv rfl (wanted_g (j := 6) rfl rfl rfl (ev_in rfl (by omega))) (run_lod1 _ _ rfl oneI (ev_in rfl (by omega)) mm6 (by decide) rfl) ?_
                refine m_mv rfl (wanted_g (j := 6) rfl rfl rfl (ev_in rfl (by omega))) (fldNd0 rfl (ev_out rfl b4) _) ?_
                refine m_mv rfl (wanted_g (j := 6) rfl rfl rfl (ev_in rfl (by omega))) (run_lod1 _ _ rfl oneI (ev_in rfl (by omega)) mn6 (by decide) rfl) ?_
                refine m_mv rfl (wanted_g (j := 6) rfl rfl rfl (ev_in rfl (by omega))) (run_neqI (b := true) _ _ rfl (ev_in rfl (by omega)) (ev_in rfl (by omega)) (decide_eq_true h5) _) ?_
                refine m_mv rfl (wanted_rd rfl) (run_pickT' _ _ _ rfl (ev_in rfl (by omega)) (ev_in rfl (by omega)) _) ?_
                refine m_mv rfl (wanted_rd rfl) (run_move _ rfl (ev_in rfl (by omega)) _) ?_
                refine m_mv rfl (wanted_g (j := 13) rfl rfl rfl (ev_in rfl (by omega))) (fldMs1 rfl (ev_in rfl (by omega)) _) ?_
                refine m_mv rfl (wanted_g (j := 13) rfl rfl rfl (ev_in rfl (by omega))) (run_lod1 _ _ rfl oneI (ev_in rfl (by omega)) mm6 (by decide) rfl) ?_
                refine m_mv rfl (wanted_g (j := 13) rfl rfl rfl (ev_in rfl (by omega))) (run_ixG _ _ _ _ rfl Tryz.underlying59 oneIs.size (ev_out rfl b9) (ev_in rfl (by omega)) hF hf4 _) ?_
                refine m_mv rfl (wanted_g (j := 13) rfl rfl rfl (ev_in rfl (by omega))) (run_lod1 _ _ rfl oneIs (ev_in rfl (by omega)) mh6 (by omega) hho) ?_
                refine m_mv rfl (wanted_g (j := 13) rfl rfl rfl (ev_in rfl (by omega))) (run_lenI _ rfl (ev_in rfl (by omega)) _) ?_
                refine m_mv rfl (wanted_g (j := 13) rfl rfl rfl (ev_in rfl (by omega))) (run_eqlI (b := true) _ _ rfl (ev_in rfl (by omega)) (ev_const _ _) (decide_eq_true rfl) _) ?_
                refine m_mv rfl (wanted_rd rfl) (run_pickT' _ _ _ rfl (ev_in rfl (by omega)) (ev_in rfl (by omega)) _) ?_
                refine l_nx ?_
                refine c_true (ev_in rfl (by omega)) ?_
                refine c_region ?_
                refine m_mv rfl (wanted_rd rfl) (fldMs1 rfl (ev_in rfl (by omega)) _) ?_
                refine m_mv rfl (wanted_rd rfl) (run_lod1 _ _ rfl oneI (ev_in rfl (by omega)) mm6 (by decide) rfl) ?_
                refine m_mv rfl (wanted_rd rfl) (fldMs3 rfl (ev_in rfl (by omega)) _) ?_
                refine m_mv rfl (wanted_rd rfl) (run_lod1 _ _ rfl oneIs (ev_in rfl (by omega)) mm6 (by decide) rfl) ?_
                refine m_mv rfl (wanted_rd rfl) (run_ixG _ _ _ _ rfl Tryz.underlying59 oneIs.size (ev_out rfl b9) (ev_in rfl (by omega)) hF hf4 _) ?_
                refine m_st (wanted_rd rfl) (fun K hK => ?_)
                refine wp_sto1 _ _ _ _ rfl oneIs (ev_in rfl (by omega)) (ev_in rfl (by omega)) mh6 (by omega) rfl rfl rfl ?_
                intro w7 mm7 k7 z7
                have mh7 := Vh.congr mm7 (hr_set hF hfl hfit)
                have mn7 := mn6.kept k7 (by omega)
                have mr7 := mr6.kept k7 (by omega)
                have mm7 := mm6.kept k7 (by omega)
                refine hK _ ?_
                clear hK K
                refine l_finB ?_
                refine c_region ?_
                refine m_mv rfl (wanted_rd rfl) (run_addI _ _ rfl (ev_out rfl b15) (ev_const _ _) (by omega) (by omega) _) ?_
                refine m_mv rfl (wanted_rd rfl) (run_move _ rfl (ev_in rfl (by omega)) _) ?_
                exact l_round ⟨L.length - (i + 1), by omega, i + 1, by omega, by omega, (szL _ _).trans hs, (defL _ _).trans hd, (ev_out rfl b2), (ev_out rfl b3), (ev_out rfl b4), (ev_out rfl b8), (ev_out rfl b9), (ev_out rfl b13), (ev_out rfl b14), (ev_in rfl (by omega)).trans (by rw [Int.natCast_add]; rfl), mn7, mr7, by rw [take_snoc hc]; exact mh7, below_of_kept ((below_of_kept (kB.trans (k4.mono (by omega))) k5 (by omega) (by omega)).trans (k6.mono (by omega))) k7 (by omega) (by omega), by omega⟩
              · have hkeep : ∀ s : Nat, s < 4 → fitB n.id n.fr (s : Int) kind many c.m = false ∨ (fL n.id n.fr (L.take i) (s : Int) kind many).isSome = true := fun s hs => by
                  by_cases e : s = f
                  · right; rw [e, hfl]; rfl
                  · left; unfold fitB; rw [decide_eq_false (show ¬ c.m.F = (s : Int) by omega)]; simp
                obtain ⟨_, cfit⟩ := fL_mem hfl
                have clen := fit_len cfit
                have hho : hrO n.id n.fr (L.take i) kind many (0 + f * 1) = .slice c2.ao c2.m.L.length c2.cap := by unfold hrO; rw [Nat.zero_add, Nat.mul_one, hfl]; rfl
                refine c_rs (m_start ?_)
                refine m_mv rfl (wanted_rd rfl) (run_lssI (b := true) _ _ rfl (ev_out rfl b15) (ev_out rfl b14) (decide_eq_true (by omega)) _) ?_
                refine l_nx ?_
                refine c_nx (c_true (ev_in rfl (by omega)) (c_fin ?_))
                refine c_nx (c_block ?_)
                refine c_rs ?_
                refine m_mv rfl (wanted_rd rfl) (run_ixM _ _ rfl (ev_out rfl b13) (ev_out rfl b15) rfl hin _) ?_
                refine m_mv rfl (wanted_rd rfl) (run_lodM _ rfl (ev_in rfl (by omega)) hcell) ?_
                refine m_do rfl (wanted_rd rfl) (fun K hK => ?_)
                refine wp_allocG _ _ rfl zeroMs (of_decide_eq_true rfl) ?_
                intro w4 m4 k4 z4
                have mn4 := mn.below k4
                have mr4 := mr.below k4
                have mh4 := mh.below k4
                refine hK _ _ ?_
                clear hK K
                refine m_st (wanted_rd rfl) (fun K hK => ?_)
                refine wp_storeP _ _ _ _ rfl manyMs (ev_in rfl (by omega)) (ev_in rfl (by omega)) m4 (by decide) (lmF_one _) rfl ?_
                intro w5 mm5 k5 z5
                have mm5 := Vh.congr mm5 (stP_all4 _ _)
                have mn5 := mn4.kept k5 (by omega)
                have mr5 := mr4.kept k5 (by omega)
                have mh5 := mh4.kept k5 (by omega)
                refine hK _ ?_
                clear hK K
                refine l_nx ?_
                refine c_rs ?_
                refine m_mv rfl (wanted_rd rfl) (fldMs0 rfl (ev_in rfl (by omega)) _) ?_
                refine m_mv rfl (wanted_rd rfl) (run_lod1 _ _ rfl oneI (ev_in rfl (by omega)) mm5 (by decide) rfl) ?_
                refine m_mv rfl (wanted_rd rfl) (run_move _ rfl (ev_out rfl b2) _) ?_
                refine m_mv rfl (wanted_rd rfl) (run_eqlI (b := true) _ _ rfl (ev_in rfl (by omega)) (ev_in rfl (by omega)) (decide_eq_true h1) _) ?_
                refine m_mv rfl (wanted_rd rfl) (run_move _ rfl (ev_in rfl (by omega)) _) ?_
                refine m_mv rfl (wanted_g (j := 4) rfl rfl rfl (ev_in rfl (by omega))) (fldMs2 rfl (ev_in rfl (by omega)) _) ?_
                refine m_mv rfl (wanted_g (j := 4) rfl rfl rfl (ev_in rfl (by omega))) (run_lod1 _ _ rfl oneI (ev_in rfl (by omega)) mm5 (by decide) rfl) ?_
                refine m_mv rfl (wanted_g (j := 4) rfl rfl rfl (ev_in rfl (by omega))) (fldNd1 rfl (ev_out rfl b4) _) ?_
                refine m_mv rfl (wanted_g (j := 4) rfl rfl rfl (ev_in rfl (by omega))) (run_lod1 _ _ rfl oneI (ev_in rfl (by omega)) mn5 (by decide) rfl) ?_
                refine m_mv rfl (wanted_g (j := 4) rfl rfl rfl (ev_in rfl (by omega))) (run_eqlI (b := true) _ _ rfl (ev_in rfl (by omega)) (ev_in rfl (by omega)) (decide_eq_true h2) _) ?_
                refine m_mv rfl (wanted_rd rfl) (run_pickT' _ _ _ rfl (ev_in rfl (by omega)) (ev_in rfl (by omega)) _) ?_
                refine m_mv rfl (wanted_rd rfl) (run_move _ rfl (ev_in rfl (by omega)) _) ?_
                refine m_mv rfl (wanted_g (j := 11) rfl rfl rfl (ev_in rfl (by omega))) (fldMs3 rfl (ev_in rfl (by omega)) _) ?_
                refine m_mv rfl (wanted_g (j := 11) rfl rfl rfl (ev_in rfl (by omega))) (run_lod1 _ _ rfl oneIs (ev_in rfl (by omega)) mm5 (by decide) rfl) ?_
                refine m_mv rfl (wanted_g (j := 11) rfl rfl rfl (ev_in rfl (by omega))) (run_lenI _ rfl (ev_in rfl (by omega)) _) ?_
                refine m_mv rfl (wanted_g (j := 11) rfl rfl rfl (ev_in rfl (by omega))) (run_move _ rfl (ev_out rfl b3) _) ?_
                refine m_mv rfl (wanted_g (j := 11) rfl rfl rfl (ev_in rfl (by omega))) (run_eqlI (b := true) _ _ rfl (ev_in rfl (by omega)) (ev_in rfl (by omega)) (decide_eq_true h3) _) ?_
                refine m_mv rfl (wanted_rd rfl) (run_pickT' _ _ _ rfl (ev_in rfl (by omega)) (ev_in rfl (by omega)) _) ?_
                refine m_mv rfl (wanted_rd rfl) (run_assign _ rfl (ev_in rfl (by omega)) _) ?_
                refine l_nx ?_
                refine c_rs ?_
                refine m_mv rfl (wanted_rd rfl) (run_move _ rfl (ev_in rfl (by omega)) _) ?_
                refine m_mv rfl (wanted_rd rfl) (run_move _ rfl (ev_in rfl (by omega)) _) ?_
                refine m_mv rfl (wanted_g (j := 1) rfl rfl rfl (ev_in rfl (by omega))) (fldMs1 rfl (ev_in rfl (by omega)) _) ?_
                refine m_mv rfl (wanted_g (j := 1) rfl rfl rfl (ev_in rfl (by omega))) (run_lod1 _ _ rfl oneI (ev_in rfl (by omega)) mm5 (by decide) rfl) ?_
                refine m_do rfl (wanted_g (j := 1) rfl rfl rfl (ev_in rfl (by omega))) (fun K hK => ?_)
                have C1 := isNode_any c.m.F w5
                rw [h4] at C1
                refine wp_call1 _ 14 _ _ rfl (ev_in rfl (by omega)) (enter_pisNode _ _) C1 ?_
                rintro e w6 ⟨rfl, k6⟩
                have n6 := k6.size
                have mn6 := mn5.below k6
                have mr6 := mr5.below k6
                have mh6 := mh5.below k6
                have mm6 := mm5.below k6
                refine ⟨_, rfl, ?_⟩
                refine hK _ _ ?_
                clear hK K
                refine m_mv rfl (wanted_rd rfl) (run_pickT' _ _ _ rfl (ev_in rfl (by omega)) (ev_in rfl (by omega)) _) ?_
                refine m_mv rfl (wanted_rd rfl) (run_move _ rfl (ev_in rfl (by omega)) _) ?_
                refine m_mv rfl (wanted_g (j := 6) rfl rfl rfl (ev_in rfl (by omega))) (fldMs1 rfl (ev_in rfl (by omega)) _) ?_
                refine m_mv rfl (wanted_g (j := 6) rfl rfl rfl (ev_in rfl (by omega))) (run_lod1 _ _ rfl oneI (ev_in rfl (by omega)) mm6 (by decide) rfl) ?_
                refine m_mv rfl (wanted_g (j := 6) rfl rfl rfl (ev_in rfl (by omega))) (fldNd0 rfl (ev_out rfl b4) _) ?_
                refine m_mv rfl (wanted_g (j := 6) rfl rfl rfl (ev_in rfl (by omega))) (run_lod1 _ _ rfl oneI (ev_in rfl (by omega)) mn6 (by decide) rfl) ?_
                refine m_mv rfl (wanted_g (j := 6) rfl rfl rfl (ev_in rfl (by omega))) (run_neqI (b := true) _ _ rfl (ev_in rfl (by omega)) (ev_in rfl (by omega)) (decide_eq_true h5) _) ?_
                refine m_mv rfl (wanted_rd rfl) (run_pickT' _ _ _ rfl (ev_in rfl (by omega)) (ev_in rfl (by omega)) _) ?_
                refine m_mv rfl (wanted_rd rfl) (run_move _ rfl (ev_in rfl (by omega)) _) ?_
                refine m_mv rfl (wanted_g (j := 13) rfl rfl rfl (ev_in rfl (by omega))) (fldMs1 rfl (ev_in rfl (by omega)) _) ?_
                refine m_mv rfl (wanted_g (j := 13) rfl rfl rfl (ev_in rfl (by omega))) (run_lod1 _ _ rfl oneI (ev_in rfl (by omega)) mm6 (by decide) rfl) ?_
                refine m_mv rfl (wanted_g (j := 13) rfl rfl rfl (ev_in rfl (by omega))) (run_ixG _ _ _ _ rfl Tryz.underlying59 oneIs.size (ev_out rfl b9) (ev_in rfl (by omega)) hF hf4 _) ?_
                refine m_mv rfl (wanted_g (j := 13) rfl rfl rfl (ev_in rfl (by omega))) (run_lod1 _ _ rfl oneIs (ev_in rfl (by omega)) mh6 (by omega) hho) ?_
                refine m_mv rfl (wanted_g (j := 13) rfl rfl rfl (ev_in rfl (by omega))) (run_lenI _ rfl (ev_in rfl (by omega)) _) ?_
                refine m_mv rfl (wanted_g (j := 13) rfl rfl rfl (ev_in rfl (by omega))) (run_eqlI (b := false) _ _ rfl (ev_in rfl (by omega)) (ev_const _ _) (decide_eq_false (by omega)) _) ?_
                refine m_mv rfl (wanted_rd rfl) (run_pickT' _ _ _ rfl (ev_in rfl (by omega)) (ev_in rfl (by omega)) _) ?_
                refine l_nx ?_
                refine c_false (ev_in rfl (by omega)) (c_finB ?_)
                refine c_region ?_
                refine m_mv rfl (wanted_rd rfl) (run_addI _ _ rfl (ev_out rfl b15) (ev_const _ _) (by omega) (by omega) _) ?_
                refine m_mv rfl (wanted_rd rfl) (run_move _ rfl (ev_in rfl (by omega)) _) ?_
                exact l_round ⟨L.length - (i + 1), by omega, i + 1, by omega, by omega, (szL _ _).trans hs, (defL _ _).trans hd, (ev_out rfl b2), (ev_out rfl b3), (ev_out rfl b4), (ev_out rfl b8), (ev_out rfl b9), (ev_out rfl b13), (ev_out rfl b14), (ev_in rfl (by omega)).trans (by rw [Int.natCast_add]; rfl), mn6, mr6, by rw [take_snoc hc]; exact Vh.congr mh6 (hr_keep hkeep), (below_of_kept (kB.trans (k4.mono (by omega))) k5 (by omega) (by omega)).trans (k6.mono (by omega)), by omega⟩
            · have hkeep : ∀ s : Nat, s < 4 → fitB n.id n.fr (s : Int) kind many c.m = false ∨ (fL n.id n.fr (L.take i) (s : Int) kind many).isSome = true := fun s hs => Or.inl (by unfold fitB; rw [decide_eq_false (show ¬ c.m.F ≠ n.id from h5)]; simp)
              refine c_rs (m_start ?_)
              refine m_mv rfl (wanted_rd rfl) (run_lssI (b := true) _ _ rfl (ev_out rfl b15) (ev_out rfl b14) (decide_eq_true (by omega)) _) ?_
              refine l_nx ?_
              refine c_nx (c_true (ev_in rfl (by omega)) (c_fin ?_))
              refine c_nx (c_block ?_)
              refine c_rs ?_
              refine m_mv rfl (wanted_rd rfl) (run_ixM _ _ rfl (ev_out rfl b13) (ev_out rfl b15) rfl hin _) ?_
              refine m_mv rfl (wanted_rd rfl) (run_lodM _ rfl (ev_in rfl (by omega)) hcell) ?_
              refine m_do rfl (wanted_rd rfl) (fun K hK => ?_)
              refine wp_allocG _ _ rfl zeroMs (of_decide_eq_true rfl) ?_
              intro w4 m4 k4 z4
              have mn4 := mn.below k4
              have mr4 := mr.below k4
              have mh4 := mh.below k4
              refine hK _ _ ?_
              clear hK K
              refine m_st (wanted_rd rfl) (fun K hK => ?_)
              refine wp_storeP _ _ _ _ rfl manyMs (ev_in rfl (by omega)) (ev_in rfl (by omega)) m4 (by decide) (lmF_one _) rfl ?_
              intro w5 mm5 k5 z5
              have mm5 := Vh.congr mm5 (stP_all4 _ _)
              have mn5 := mn4.kept k5 (by omega)
              have mr5 := mr4.kept k5 (by omega)
              have mh5 := mh4.kept k5 (by omega)
              refine hK _ ?_
              clear hK K
              refine l_nx ?_
              refine c_rs ?_
              refine m_mv rfl (wanted_rd rfl) (fldMs0 rfl (ev_in rfl (by omega)) _) ?_
              refine m_mv rfl (wanted_rd rfl) (run_lod1 _ _ rfl oneI (ev_in rfl (by omega)) mm5 (by decide) rfl) ?_
              refine m_mv rfl (wanted_rd rfl) (run_move _ rfl (ev_out rfl b2) _) ?_
              refine m_mv rfl (wanted_rd rfl) (run_eqlI (b := true) _ _ rfl (ev_in rfl (by omega)) (ev_in rfl (by omega)) (decide_eq_true h1) _) ?_
              refine m_mv rfl (wanted_rd rfl) (run_move _ rfl (ev_in rfl (by omega)) _) ?_
              refine m_mv rfl (wanted_g (j := 4) rfl rfl rfl (ev_in rfl (by omega))) (fldMs2 rfl (ev_in rfl (by omega)) _) ?_
              refine m_mv rfl (wanted_g (j := 4) rfl rfl rfl (ev_in rfl (by omega))) (run_lod1 _ _ rfl oneI (ev_in rfl (by omega)) mm5 (by decide) rfl) ?_
              refine m_mv rfl (wanted_g (j := 4) rfl rfl rfl (ev_in rfl (by omega))) (fldNd1 rfl (ev_out rfl b4) _) ?_
              refine m_mv rfl (wanted_g (j := 4) rfl rfl rfl (ev_in rfl (by omega))) (run_lod1 _ _ rfl oneI (ev_in rfl (by omega)) mn5 (by decide) rfl) ?_
              refine m_mv rfl (wanted_g (j := 4) rfl rfl rfl (ev_in rfl (by omega))) (run_eqlI (b := true) _ _ rfl (ev_in rfl (by omega)) (ev_in rfl (by omega)) (decide_eq_true h2) _) ?_
              refine m_mv rfl (wanted_rd rfl) (run_pickT' _ _ _ rfl (ev_in rfl (by omega)) (ev_in rfl (by omega)) _) ?_
              refine m_mv rfl (wanted_rd rfl) (run_move _ rfl (ev_in rfl (by omega)) _) ?_
              refine m_mv rfl (wanted_g (j := 11) rfl rfl rfl (ev_in rfl (by omega))) (fldMs3 rfl (ev_in rfl (by omega)) _) ?_
              refine m_mv rfl (wanted_g (j := 11) rfl rfl rfl (ev_in rfl (by omega))) (run_lod1 _ _ rfl oneIs (ev_in rfl (by omega)) mm5 (by decide) rfl) ?_
              refine m_mv rfl (wanted_g (j := 11) rfl rfl rfl (ev_in rfl (by omega))) (run_lenI _ rfl (ev_in rfl (by omega)) _) ?_
              refine m_mv rfl (wanted_g (j := 11) rfl rfl rfl (ev_in rfl (by omega))) (run_move _ rfl (ev_out rfl b3) _) ?_
              refine m_mv rfl (wanted_g (j := 11) rfl rfl rfl (ev_in rfl (by omega))) (run_eqlI (b := true) _ _ rfl (ev_in rfl (by omega)) (ev_in rfl (by omega)) (decide_eq_true h3) _) ?_
              refine m_mv rfl (wanted_rd rfl) (run_pickT' _ _ _ rfl (ev_in rfl (by omega)) (ev_in rfl (by omega)) _) ?_
              refine m_mv rfl (wanted_rd rfl) (run_assign _ rfl (ev_in rfl (by omega)) _) ?_
              refine l_nx ?_
              refine c_rs ?_
              refine m_mv rfl (wanted_rd rfl) (run_move _ rfl (ev_in rfl (by omega)) _) ?_
              refine m_mv rfl (wanted_rd rfl) (run_move _ rfl (ev_in rfl (by omega)) _) ?_
              refine m_mv rfl (wanted_g (j := 1) rfl rfl rfl (ev_in rfl (by omega))) (fldMs1 rfl (ev_in rfl (by omega)) _) ?_
              refine m_mv rfl (wanted_g (j := 1) rfl rfl rfl (ev_in rfl (by omega))) (run_lod1 _ _ rfl oneI (ev_in rfl (by omega)) mm5 (by decide) rfl) ?_
              refine m_do rfl (wanted_g (j := 1) rfl rfl rfl (ev_in rfl (by omega))) (fun K hK => ?_)
              have C1 := isNode_any c.m.F w5
              rw [h4] at C1
              refine wp_call1 _ 14 _ _ rfl (ev_in rfl (by omega)) (enter_pisNode _ _) C1 ?_
              rintro e w6 ⟨rfl, k6⟩
              have n6 := k6.size
              have mn6 := mn5.below k6
              have mr6 := mr5.below k6
              have mh6 := mh5.below k6
              have mm6 := mm5.below k6
              refine ⟨_, rfl, ?_⟩
              refine hK _ _ ?_
              clear hK K
              refine m_mv rfl (wanted_rd rfl) (run_pickT' _ _ _ rfl (ev_in rfl (by omega)) (ev_in rfl (by omega)) _) ?_
              refine m_mv rfl (wanted_rd rfl) (run_move _ rfl (ev_in rfl (by omega)) _) ?_
              refine m_mv rfl (wanted_g (j := 6) rfl rfl rfl (ev_in rfl (by omega))) (fldMs1 rfl (ev_in rfl (by omega)) _) ?_
              refine m_mv rfl (wanted_g (j := 6) rfl rfl rfl (ev_in rfl (by omega))) (run_lod1 _ _ rfl oneI (ev_in rfl (by omega)) mm6 (by decide) rfl) ?_
              refine m_mv rfl (wanted_g (j := 6) rfl rfl rfl (ev_in rfl (by omega))) (fldNd0 rfl (ev_out rfl b4) _) ?_
              refine m_mv rfl (wanted_g (j := 6) rfl rfl rfl (ev_in rfl (by omega))) (run_lod1 _ _ rfl oneI (ev_in rfl (by omega)) mn6 (by decide) rfl) ?_
              refine m_mv rfl (wanted_g (j := 6) rfl rfl rfl (ev_in rfl (by omega))) (run_neqI (b := false) _ _ rfl (ev_in rfl (by omega)) (ev_in rfl (by omega)) (decide_eq_false h5) _) ?_
              refine m_mv rfl (wanted_rd rfl) (run_pickT' _ _ _ rfl (ev_in rfl (by omega)) (ev_in rfl (by omega)) _) ?_
              refine m_mv rfl (wanted_rd rfl) (run_move _ rfl (ev_in rfl (by omega)) _) ?_
              refine m_skip rfl (wanted_n (j := 13) rfl rfl rfl (ev_in rfl (by omega)) (by decide)) ?_
              refine m_skip rfl (wanted_n (j := 13) rfl rfl rfl (ev_in rfl (by omega)) (by decide)) ?_
              refine m_skip rfl (wanted_n (j := 13) rfl rfl rfl (ev_in rfl (by omega)) (by decide)) ?_
              refine m_skip rfl (wanted_n (j := 13) rfl rfl rfl (ev_in rfl (by omega)) (by decide)) ?_
              refine m_skip rfl (wanted_n (j := 13) rfl rfl rfl (ev_in rfl (by omega)) (by decide)) ?_
              refine m_skip rfl (wanted_n (j := 13) rfl rfl rfl (ev_in rfl (by omega)) (by decide)) ?_
              refine m_mv rfl (wanted_rd rfl) (run_pickF _ _ _ rfl (ev_in rfl (by omega)) (ev_const _ _) _) ?_
              refine l_nx ?_
              refine c_false (ev_in rfl (by omega)) (c_finB ?_)
              refine c_region ?_
              refine m_mv rfl (wanted_rd rfl) (run_addI _ _ rfl (ev_out rfl b15) (ev_const _ _) (by omega) (by omega) _) ?_
              refine m_mv rfl (wanted_rd rfl) (run_move _ rfl (ev_in rfl (by omega)) _) ?_
              exact l_round ⟨L.length - (i + 1), by omega, i + 1, by omega, by omega, (szL _ _).trans hs, (defL _ _).trans hd, (ev_out rfl b2), (ev_out rfl b3), (ev_out rfl b4), (ev_out rfl b8), (ev_out rfl b9), (ev_out rfl b13), (ev_out rfl b14), (ev_in rfl (by omega)).trans (by rw [Int.natCast_add]; rfl), mn6, mr6, by rw [take_snoc hc]; exact Vh.congr mh6 (hr_keep hkeep), (below_of_kept (kB.trans (k4.mono (by omega))) k5 (by omega) (by omega)).trans (k6.mono (by omega)), by omega⟩
          · have hkeep : ∀ s : Nat, s < 4 → fitB n.id n.fr (s : Int) kind many c.m = false ∨ (fL n.id n.fr (L.take i) (s : Int) kind many).isSome = true := fun s hs => Or.inl (by unfold fitB; rw [decide_eq_false (show ¬ c.m.F = (s : Int) from fun e => by rw [e] at h4; unfold noN at h4; simp at h4; omega)]; simp)
            refine c_rs (m_start ?_)
            refine m_mv rfl (wanted_rd rfl) (run_lssI (b := true) _ _ rfl (ev_out rfl b15) (ev_out rfl b14) (decide_eq_true (by omega)) _) ?_
            refine l_nx ?_
            refine c_nx (c_true (ev_in rfl (by omega)) (c_fin ?_))
            refine c_nx (c_block ?_)
            refine c_rs ?_
            refine m_mv rfl (wanted_rd rfl) (run_ixM _ _ rfl (ev_out rfl b13) (ev_out rfl b15) rfl hin _) ?_
            refine m_mv rfl (wanted_rd rfl) (run_lodM _ rfl (ev_in rfl (by omega)) hcell) ?_
            refine m_do rfl (wanted_rd rfl) (fun K hK => ?_)
            refine wp_allocG _ _ rfl zeroMs (of_decide_eq_true rfl) ?_
            intro w4 m4 k4 z4
            have mn4 := mn.below k4
            have mr4 := mr.below k4
            have mh4 := mh.below k4
            refine hK _ _ ?_
            clear hK K
            refine m_st (wanted_rd rfl) (fun K hK => ?_)
            refine wp_storeP _ _ _ _ rfl manyMs (ev_in rfl (by omega)) (ev_in rfl (by omega)) m4 (by decide) (lmF_one _) rfl ?_
            intro w5 mm5 k5 z5
            have mm5 := Vh.congr mm5 (stP_all4 _ _)
            have mn5 := mn4.kept k5 (by omega)
            have mr5 := mr4.kept k5 (by omega)
            have mh5 := mh4.kept k5 (by omega)
            refine hK _ ?_
            clear hK K
            refine l_nx ?_
            refine c_rs ?_
            refine m_mv rfl (wanted_rd rfl) (fldMs0 rfl (ev_in rfl (by omega)) _) ?_
            refine m_mv rfl (wanted_rd rfl) (run_lod1 _ _ rfl oneI (ev_in rfl (by omega)) mm5 (by decide) rfl) ?_
            refine m_mv rfl (wanted_rd rfl) (run_move _ rfl (ev_out rfl b2) _) ?_
            refine m_mv rfl (wanted_rd rfl) (run_eqlI (b := true) _ _ rfl (ev_in rfl (by omega)) (ev_in rfl (by omega)) (decide_eq_true h1) _) ?_
            refine m_mv rfl (wanted_rd rfl) (run_move _ rfl (ev_in rfl (by omega)) _) ?_
            refine m_mv rfl (wanted_g (j := 4) rfl rfl rfl (ev_in rfl (by omega))) (fldMs2 rfl (ev_in rfl (by omega)) _) ?_
            refine m_mv rfl (wanted_g (j := 4) rfl rfl rfl (ev_in rfl (by omega))) (run_lod1 _ _ rfl oneI (ev_in rfl (by omega)) mm5 (by decide) rfl) ?_
            refine m_mv rfl (wanted_g (j := 4) rfl rfl rfl (ev_in rfl (by omega))) (fldNd1 rfl (ev_out rfl b4) _) ?_
            refine m_mv rfl (wanted_g (j := 4) rfl rfl rfl (ev_in rfl (by omega))) (run_lod1 _ _ rfl oneI (ev_in rfl (by omega)) mn5 (by decide) rfl) ?_
            refine m_mv rfl (wanted_g (j := 4) rfl rfl rfl (ev_in rfl (by omega))) (run_eqlI (b := true) _ _ rfl (ev_in rfl (by omega)) (ev_in rfl (by omega)) (decide_eq_true h2) _) ?_
            refine m_mv rfl (wanted_rd rfl) (run_pickT' _ _ _ rfl (ev_in rfl (by omega)) (ev_in rfl (by omega)) _) ?_
            refine m_mv rfl (wanted_rd rfl) (run_move _ rfl (ev_in rfl (by omega)) _) ?_
            refine m_mv rfl (wanted_g (j := 11) rfl rfl rfl (ev_in rfl (by omega))) (fldMs3 rfl (ev_in rfl (by omega)) _) ?_
            refine m_mv rfl (wanted_g (j := 11) rfl rfl rfl (ev_in rfl (by omega))) (run_lod1 _ _ rfl oneIs (ev_in rfl (by omega)) mm5 (by decide) rfl) ?_
            refine m_mv rfl (wanted_g (j := 11) rfl rfl rfl (ev_in rfl (by omega))) (run_lenI _ rfl (ev_in rfl (by omega)) _) ?_
            refine m_mv rfl (wanted_g (j := 11) rfl rfl rfl (ev_in rfl (by omega))) (run_move _ rfl (ev_out rfl b3) _) ?_
            refine m_mv rfl (wanted_g (j := 11) rfl rfl rfl (ev_in rfl (by omega))) (run_eqlI (b := true) _ _ rfl (ev_in rfl (by omega)) (ev_in rfl (by omega)) (decide_eq_true h3) _) ?_
            refine m_mv rfl (wanted_rd rfl) (run_pickT' _ _ _ rfl (ev_in rfl (by omega)) (ev_in rfl (by omega)) _) ?_
            refine m_mv rfl (wanted_rd rfl) (run_assign _ rfl (ev_in rfl (by omega)) _) ?_
            refine l_nx ?_
            refine c_rs ?_
            refine m_mv rfl (wanted_rd rfl) (run_move _ rfl (ev_in rfl (by omega)) _) ?_
            refine m_mv rfl (wanted_rd rfl) (run_move _ rfl (ev_in rfl (by omega)) _) ?_
            refine m_mv rfl (wanted_g (j := 1) rfl rfl rfl (ev_in rfl (by omega))) (fldMs1 rfl (ev_in rfl (by omega)) _) ?_
            refine m_mv rfl (wanted_g (j := 1) rfl rfl rfl (ev_in rfl (by omega))) (run_lod1 _ _ rfl oneI (ev_in rfl (by omega)) mm5 (by decide) rfl) ?_
            refine m_do rfl (wanted_g (j := 1) rfl rfl rfl (ev_in rfl (by omega))) (fun K hK => ?_)
            have C1 := isNode_any c.m.F w5
            rw [h4] at C1
            refine wp_call1 _ 14 _ _ rfl (ev_in rfl (by omega)) (enter_pisNode _ _) C1 ?_
            rintro e w6 ⟨rfl, k6⟩
            have n6 := k6.size
            have mn6 := mn5.below k6
            have mr6 := mr5.below k6
            have mh6 := mh5.below k6
            have mm6 := mm5.below k6
            refine ⟨_, rfl, ?_⟩
            refine hK _ _ ?_
            clear hK K
            refine m_mv rfl (wanted_rd rfl) (run_pickT' _ _ _ rfl (ev_in rfl (by omega)) (ev_in rfl (by omega)) _) ?_
            refine m_mv rfl (wanted_rd rfl) (run_move _ rfl (ev_in rfl (by omega)) _) ?_
            refine m_skip rfl (wanted_n (j := 6) rfl rfl rfl (ev_in rfl (by omega)) (by decide)) ?_
            refine m_skip rfl (wanted_n (j := 6) rfl rfl rfl (ev_in rfl (by omega)) (by decide)) ?_
            refine m_skip rfl (wanted_n (j := 6) rfl rfl rfl (ev_in rfl (by omega)) (by decide)) ?_
            refine m_skip rfl (wanted_n (j := 6) rfl rfl rfl (ev_in rfl (by omega)) (by decide)) ?_
            refine m_skip rfl (wanted_n (j := 6) rfl rfl rfl (ev_in rfl (by omega)) (by decide)) ?_
            refine m_mv rfl (wanted_rd rfl) (run_pickF _ _ _ rfl (ev_in rfl (by omega)) (ev_const _ _) _) ?_
            refine m_mv rfl (wanted_rd rfl) (run_move _ rfl (ev_in rfl (by omega)) _) ?_
            refine m_skip rfl (wanted_n (j := 13) rfl rfl rfl (ev_in rfl (by omega)) (by decide)) ?_
            refine m_skip rfl (wanted_n (j := 13) rfl rfl rfl (ev_in rfl (by omega)) (by decide)) ?_
            refine m_skip rfl (wanted_n (j := 13) rfl rfl rfl (ev_in rfl (by omega)) (by decide)) ?_
            refine m_skip rfl (wanted_n (j := 13) rfl rfl rfl (ev_in rfl (by omega)) (by decide)) ?_
            refine m_skip rfl (wanted_n (j := 13) rfl rfl rfl (ev_in rfl (by omega)) (by decide)) ?_
            refine m_skip rfl (wanted_n (j := 13) rfl rfl rfl (ev_in rfl (by omega)) (by decide)) ?_
            refine m_mv rfl (wanted_rd rfl) (run_pickF _ _ _ rfl (ev_in rfl (by omega)) (ev_const _ _) _) ?_
            refine l_nx ?_
            refine c_false (ev_in rfl (by omega)) (c_finB ?_)
            refine c_region ?_
            refine m_mv rfl (wanted_rd rfl) (run_addI _ _ rfl (ev_out rfl b15) (ev_const _ _) (by omega) (by omega) _) ?_
            refine m_mv rfl (wanted_rd rfl) (run_move _ rfl (ev_in rfl (by omega)) _) ?_
            exact l_round ⟨L.length - (i + 1), by omega, i + 1, by omega, by omega, (szL _ _).trans hs, (defL _ _).trans hd, (ev_out rfl b2), (ev_out rfl b3), (ev_out rfl b4), (ev_out rfl b8), (ev_out rfl b9), (ev_out rfl b13), (ev_out rfl b14), (ev_in rfl (by omega)).trans (by rw [Int.natCast_add]; rfl), mn6, mr6, by rw [take_snoc hc]; exact Vh.congr mh6 (hr_keep hkeep), (below_of_kept (kB.trans (k4.mono (by omega))) k5 (by omega) (by omega)).trans (k6.mono (by omega)), by omega⟩
        · have hkeep : ∀ s : Nat, s < 4 → fitB n.id n.fr (s : Int) kind many c.m = false ∨ (fL n.id n.fr (L.take i) (s : Int) kind many).isSome = true := fun s hs => Or.inl (by unfold fitB; rw [decide_eq_false (show ¬ (c.m.L.length : Int) = many from h3)]; simp)
          refine c_rs (m_start ?_)
          refine m_mv rfl (wanted_rd rfl) (run_lssI (b := true) _ _ rfl (ev_out rfl b15) (ev_out rfl b14) (decide_eq_true (by omega)) _) ?_
          refine l_nx ?_
          refine c_nx (c_true (ev_in rfl (by omega)) (c_fin ?_))
          refine c_nx (c_block ?_)
          refine c_rs ?_
          refine m_mv rfl (wanted_rd rfl) (run_ixM _ _ rfl (ev_out rfl b13) (ev_out rfl b15) rfl hin _) ?_
          refine m_mv rfl (wanted_rd rfl) (run_lodM _ rfl (ev_in rfl (by omega)) hcell) ?_
          refine m_do rfl (wanted_rd rfl) (fun K hK => ?_)
          refine wp_allocG _ _ rfl zeroMs (of_decide_eq_true rfl) ?_
          intro w4 m4 k4 z4
          have mn4 := mn.below k4
          have mr4 := mr.below k4
          have mh4 := mh.below k4
          refine hK _ _ ?_
          clear hK K
          refine m_st (wanted_rd rfl) (fun K hK => ?_)
          refine wp_storeP _ _ _ _ rfl manyMs (ev_in rfl (by omega)) (ev_in rfl (by omega)) m4 (by decide) (lmF_one _) rfl ?_
          intro w5 mm5 k5 z5
          have mm5 := Vh.congr mm5 (stP_all4 _ _)
          have mn5 := mn4.kept k5 (by omega)
          have mr5 := mr4.kept k5 (by omega)
          have mh5 := mh4.kept k5 (by omega)
          refine hK _ ?_
          clear hK K
          refine l_nx ?_
          refine c_rs ?_
          refine m_mv rfl (wanted_rd rfl) (fldMs0 rfl (ev_in rfl (by omega)) _) ?_
          refine m_mv rfl (wanted_rd rfl) (run_lod1 _ _ rfl oneI (ev_in rfl (by omega)) mm5 (by decide) rfl) ?_
          refine m_mv rfl (wanted_rd rfl) (run_move _ rfl (ev_out rfl b2) _) ?_
          refine m_mv rfl (wanted_rd rfl) (run_eqlI (b := true) _ _ rfl (ev_in rfl (by omega)) (ev_in rfl (by omega)) (decide_eq_true h1) _) ?_
          refine m_mv rfl (wanted_rd rfl) (run_move _ rfl (ev_in rfl (by omega)) _) ?_
          refine m_mv rfl (wanted_g (j := 4) rfl rfl rfl (ev_in rfl (by omega))) (fldMs2 rfl (ev_in rfl (by omega)) _) ?_
          refine m_mv rfl (wanted_g (j := 4) rfl rfl rfl (ev_in rfl (by omega))) (run_lod1 _ _ rfl oneI (ev_in rfl (by omega)) mm5 (by decide) rfl) ?_
          refine m_mv rfl (wanted_g (j := 4) rfl rfl rfl (ev_in rfl (by omega))) (fldNd1 rfl (ev_out rfl b4) _) ?_
          refine m_mv rfl (wanted_g (j := 4) rfl rfl rfl (ev_in rfl (by omega))) (run_lod1 _ _ rfl oneI (ev_in rfl (by omega)) mn5 (by decide) rfl) ?_
          refine m_mv rfl (wanted_g (j := 4) rfl rfl rfl (ev_in rfl (by omega))) (run_eqlI (b := true) _ _ rfl (ev_in rfl (by omega)) (ev_in rfl (by omega)) (decide_eq_true h2) _) ?_
          refine m_mv rfl (wanted_rd rfl) (run_pickT' _ _ _ rfl (ev_in rfl (by omega)) (ev_in rfl (by omega)) _) ?_
          refine m_mv rfl (wanted_rd rfl) (run_move _ rfl (ev_in rfl (by omega)) _) ?_
          refine m_mv rfl (wanted_g (j := 11) rfl rfl rfl (ev_in rfl (by omega))) (fldMs3 rfl (ev_in rfl (by omega)) _) ?_
          refine m_mv rfl (wanted_g (j := 11) rfl rfl rfl (ev_in rfl (by omega))) (run_lod1 _ _ rfl oneIs (ev_in rfl (by omega)) mm5 (by decide) rfl) ?_
          refine m_mv rfl (wanted_g (j := 11) rfl rfl rfl (ev_in rfl (by omega))) (run_lenI _ rfl (ev_in rfl (by omega)) _) ?_
          refine m_mv rfl (wanted_g (j := 11) rfl rfl rfl (ev_in rfl (by omega))) (run_move _ rfl (ev_out rfl b3) _) ?_
          refine m_mv rfl (wanted_g (j := 11) rfl rfl rfl (ev_in rfl (by omega))) (run_eqlI (b := false) _ _ rfl (ev_in rfl (by omega)) (ev_in rfl (by omega)) (decide_eq_false h3) _) ?_
          refine m_mv rfl (wanted_rd rfl) (run_pickT' _ _ _ rfl (ev_in rfl (by omega)) (ev_in rfl (by omega)) _) ?_
          refine m_mv rfl (wanted_rd rfl) (run_assign _ rfl (ev_in rfl (by omega)) _) ?_
          refine l_nx ?_
          refine c_rs ?_
          refine m_mv rfl (wanted_rd rfl) (run_move _ rfl (ev_in rfl (by omega)) _) ?_
          refine m_mv rfl (wanted_rd rfl) (run_move _ rfl (ev_in rfl (by omega)) _) ?_
          refine m_skip rfl (wanted_n (j := 1) rfl rfl rfl (ev_in rfl (by omega)) (by decide)) ?_
          refine m_skip rfl (wanted_n (j := 1) rfl rfl rfl (ev_in rfl (by omega)) (by decide)) ?_
          refine m_skip rfl (wanted_n (j := 1) rfl rfl rfl (ev_in rfl (by omega)) (by decide)) ?_
          refine m_mv rfl (wanted_rd rfl) (run_pickF _ _ _ rfl (ev_in rfl (by omega)) (ev_const _ _) _) ?_
          refine m_mv rfl (wanted_rd rfl) (run_move _ rfl (ev_in rfl (by omega)) _) ?_
          refine m_skip rfl (wanted_n (j := 6) rfl rfl rfl (ev_in rfl (by omega)) (by decide)) ?_
          refine m_skip rfl (wanted_n (j := 6) rfl rfl rfl (ev_in rfl (by omega)) (by decide)) ?_
          refine m_skip rfl (wanted_n (j := 6) rfl rfl rfl (ev_in rfl (by omega)) (by decide)) ?_
          refine m_skip rfl (wanted_n (j := 6) rfl rfl rfl (ev_in rfl (by omega)) (by decide)) ?_
          refine m_skip rfl (wanted_n (j := 6) rfl rfl rfl (ev_in rfl (by omega)) (by decide)) ?_
          refine m_mv rfl (wanted_rd rfl) (run_pickF _ _ _ rfl (ev_in rfl (by omega)) (ev_const _ _) _) ?_
          refine m_mv rfl (wanted_rd rfl) (run_move _ rfl (ev_in rfl (by omega)) _) ?_
          refine m_skip rfl (wanted_n (j := 13) rfl rfl rfl (ev_in rfl (by omega)) (by decide)) ?_
          refine m_skip rfl (wanted_n (j := 13) rfl rfl rfl (ev_in rfl (by omega)) (by decide)) ?_
          refine m_skip rfl (wanted_n (j := 13) rfl rfl rfl (ev_in rfl (by omega)) (by decide)) ?_
          refine m_skip rfl (wanted_n (j := 13) rfl rfl rfl (ev_in rfl (by omega)) (by decide)) ?_
          refine m_skip rfl (wanted_n (j := 13) rfl rfl rfl (ev_in rfl (by omega)) (by decide)) ?_
          refine m_skip rfl (wanted_n (j := 13) rfl rfl rfl (ev_in rfl (by omega)) (by decide)) ?_
          refine m_mv rfl (wanted_rd rfl) (run_pickF _ _ _ rfl (ev_in rfl (by omega)) (ev_const _ _) _) ?_
          refine l_nx ?_
          refine c_false (ev_in rfl (by omega)) (c_finB ?_)
          refine c_region ?_
          refine m_mv rfl (wanted_rd rfl) (run_addI _ _ rfl (ev_out rfl b15) (ev_const _ _) (by omega) (by omega) _) ?_
          refine m_mv rfl (wanted_rd rfl) (run_move _ rfl (ev_in rfl (by omega)) _) ?_
          exact l_round ⟨L.length - (i + 1), by omega, i + 1, by omega, by omega, (szL _ _).trans hs, (defL _ _).trans hd, (ev_out rfl b2), (ev_out rfl b3), (ev_out rfl b4), (ev_out rfl b8), (ev_out rfl b9), (ev_out rfl b13), (ev_out rfl b14), (ev_in rfl (by omega)).trans (by rw [Int.natCast_add]; rfl), mn5, mr5, by rw [take_snoc hc]; exact Vh.congr mh5 (hr_keep hkeep), below_of_kept (kB.trans (k4.mono (by omega))) k5 (by omega) (by omega), by omega⟩
      · have hkeep : ∀ s : Nat, s < 4 → fitB n.id n.fr (s : Int) kind many c.m = false ∨ (fL n.id n.fr (L.take i) (s : Int) kind many).isSome = true := fun s hs => Or.inl (by unfold fitB; rw [decide_eq_false (show ¬ c.m.R = n.fr from h2)]; simp)
        refine c_rs (m_start ?_)
        refine m_mv rfl (wanted_rd rfl) (run_lssI (b := true) _ _ rfl (ev_out rfl b15) (ev_out rfl b14) (decide_eq_true (by omega)) _) ?_
        refine l_nx ?_
        refine c_nx (c_true (ev_in rfl (by omega)) (c_fin ?_))
        refine c_nx (c_block ?_)
        refine c_rs ?_
        refine m_mv rfl (wanted_rd rfl) (run_ixM _ _ rfl (ev_out rfl b13) (ev_out rfl b15) rfl hin _) ?_
        refine m_mv rfl (wanted_rd rfl) (run_lodM _ rfl (ev_in rfl (by omega)) hcell) ?_
        refine m_do rfl (wanted_rd rfl) (fun K hK => ?_)
        refine wp_allocG _ _ rfl zeroMs (of_decide_eq_true rfl) ?_
        intro w4 m4 k4 z4
        have mn4 := mn.below k4
        have mr4 := mr.below k4
        have mh4 := mh.below k4
        refine hK _ _ ?_
        clear hK K
        refine m_st (wanted_rd rfl) (fun K hK => ?_)
        refine wp_storeP _ _ _ _ rfl manyMs (ev_in rfl (by omega)) (ev_in rfl (by omega)) m4 (by decide) (lmF_one _) rfl ?_
        intro w5 mm5 k5 z5
        have mm5 := Vh.congr mm5 (stP_all4 _ _)
        have mn5 := mn4.kept k5 (by omega)
        have mr5 := mr4.kept k5 (by omega)
        have mh5 := mh4.kept k5 (by omega)
        refine hK _ ?_
        clear hK K
        refine l_nx ?_
        refine c_rs ?_
        refine m_mv rfl (wanted_rd rfl) (fldMs0 rfl (ev_in rfl (by omega)) _) ?_
        refine m_mv rfl (wanted_rd rfl) (run_lod1 _ _ rfl oneI (ev_in rfl (by omega)) mm5 (by decide) rfl) ?_
        refine m_mv rfl (wanted_rd rfl) (run_move _ rfl (ev_out rfl b2) _) ?_
        refine m_mv rfl (wanted_rd rfl) (run_eqlI (b := true) _ _ rfl (ev_in rfl (by omega)) (ev_in rfl (by omega)) (decide_eq_true h1) _) ?_
        refine m_mv rfl (wanted_rd rfl) (run_move _ rfl (ev_in rfl (by omega)) _) ?_
        refine m_mv rfl (wanted_g (j := 4) rfl rfl rfl (ev_in rfl (by omega))) (fldMs2 rfl (ev_in rfl (by omega)) _) ?_
        refine m_mv rfl (wanted_g (j := 4) rfl rfl rfl (ev_in rfl (by omega))) (run_lod1 _ _ rfl oneI (ev_in rfl (by omega)) mm5 (by decide) rfl) ?_
        refine m_mv rfl (wanted_g (j := 4) rfl rfl rfl (ev_in rfl (by omega))) (fldNd1 rfl (ev_out rfl b4) _) ?_
        refine m_mv rfl (wanted_g (j := 4) rfl rfl rfl (ev_in rfl (by omega))) (run_lod1 _ _ rfl oneI (ev_in rfl (by omega)) mn5 (by decide) rfl) ?_
        refine m_mv rfl (wanted_g (j := 4) rfl rfl rfl (ev_in rfl (by omega))) (run_eqlI (b := false) _ _ rfl (ev_in rfl (by omega)) (ev_in rfl (by omega)) (decide_eq_false h2) _) ?_
        refine m_mv rfl (wanted_rd rfl) (run_pickT' _ _ _ rfl (ev_in rfl (by omega)) (ev_in rfl (by omega)) _) ?_
        refine m_mv rfl (wanted_rd rfl) (run_move _ rfl (ev_in rfl (by omega)) _) ?_
        refine m_skip rfl (wanted_n (j := 11) rfl rfl rfl (ev_in rfl (by omega)) (by decide)) ?_
        refine m_skip rfl (wanted_n (j := 11) rfl rfl rfl (ev_in rfl (by omega)) (by decide)) ?_
        refine m_skip rfl (wanted_n (j := 11) rfl rfl rfl (ev_in rfl (by omega)) (by decide)) ?_
        refine m_skip rfl (wanted_n (j := 11) rfl rfl rfl (ev_in rfl (by omega)) (by decide)) ?_
        refine m_skip rfl (wanted_n (j := 11) rfl rfl rfl (ev_in rfl (by omega)) (by decide)) ?_
        refine m_mv rfl (wanted_rd rfl) (run_pickF _ _ _ rfl (ev_in rfl (by omega)) (ev_const _ _) _) ?_
        refine m_mv rfl (wanted_rd rfl) (run_assign _ rfl (ev_in rfl (by omega)) _) ?_
        refine l_nx ?_
        refine c_rs ?_
        refine m_mv rfl (wanted_rd rfl) (run_move _ rfl (ev_in rfl (by omega)) _) ?_
        refine m_mv rfl (wanted_rd rfl) (run_move _ rfl (ev_in rfl (by omega)) _) ?_
        refine m_skip rfl (wanted_n (j := 1) rfl rfl rfl (ev_in rfl (by omega)) (by decide)) ?_
        refine m_skip rfl (wanted_n (j := 1) rfl rfl rfl (ev_in rfl (by omega)) (by decide)) ?_
        refine m_skip rfl (wanted_n (j := 1) rfl rfl rfl (ev_in rfl (by omega)) (by decide)) ?_
        refine m_mv rfl (wanted_rd rfl) (run_pickF _ _ _ rfl (ev_in rfl (by omega)) (ev_const _ _) _) ?_
        refine m_mv rfl (wanted_rd rfl) (run_move _ rfl (ev_in rfl (by omega)) _) ?_
        refine m_skip rfl (wanted_n (j := 6) rfl rfl rfl (ev_in rfl (by omega)) (by decide)) ?_
        refine m_skip rfl (wanted_n (j := 6) rfl rfl rfl (ev_in rfl (by omega)) (by decide)) ?_
        refine m_skip rfl (wanted_n (j := 6) rfl rfl rfl (ev_in rfl (by omega)) (by decide)) ?_
        refine m_skip rfl (wanted_n (j := 6) rfl rfl rfl (ev_in rfl (by omega)) (by decide)) ?_
        refine m_skip rfl (wanted_n (j := 6) rfl rfl rfl (ev_in rfl (by omega)) (by decide)) ?_
        refine m_mv rfl (wanted_rd rfl) (run_pickF _ _ _ rfl (ev_in rfl (by omega)) (ev_const _ _) _) ?_
        refine m_mv rfl (wanted_rd rfl) (run_move _ rfl (ev_in rfl (by omega)) _) ?_
        refine m_skip rfl (wanted_n (j := 13) rfl rfl rfl (ev_in rfl (by omega)) (by decide)) ?_
        refine m_skip rfl (wanted_n (j := 13) rfl rfl rfl (ev_in rfl (by omega)) (by decide)) ?_
        refine m_skip rfl (wanted_n (j := 13) rfl rfl rfl (ev_in rfl (by omega)) (by decide)) ?_
        refine m_skip rfl (wanted_n (j := 13) rfl rfl rfl (ev_in rfl (by omega)) (by decide)) ?_
        refine m_skip rfl (wanted_n (j := 13) rfl rfl rfl (ev_in rfl (by omega)) (by decide)) ?_
        refine m_skip rfl (wanted_n (j := 13) rfl rfl rfl (ev_in rfl (by omega)) (by decide)) ?_
        refine m_mv rfl (wanted_rd rfl) (run_pickF _ _ _ rfl (ev_in rfl (by omega)) (ev_const _ _) _) ?_
        refine l_nx ?_
        refine c_false (ev_in rfl (by omega)) (c_finB ?_)
        refine c_region ?_
        refine m_mv rfl (wanted_rd rfl) (run_addI _ _ rfl (ev_out rfl b15) (ev_const _ _) (by omega) (by omega) _) ?_
        refine m_mv rfl (wanted_rd rfl) (run_move _ rfl (ev_in rfl (by omega)) _) ?_
        exact l_round ⟨L.length - (i + 1), by omega, i + 1, by omega, by omega, (szL _ _).trans hs, (defL _ _).trans hd, (ev_out rfl b2), (ev_out rfl b3), (ev_out rfl b4), (ev_out rfl b8), (ev_out rfl b9), (ev_out rfl b13), (ev_out rfl b14), (ev_in rfl (by omega)).trans (by rw [Int.natCast_add]; rfl), mn5, mr5, by rw [take_snoc hc]; exact Vh.congr mh5 (hr_keep hkeep), below_of_kept (kB.trans (k4.mono (by omega))) k5 (by omega) (by omega), by omega⟩
    · have hkeep : ∀ s : Nat, s < 4 → fitB n.id n.fr (s : Int) kind many c.m = false ∨ (fL n.id n.fr (L.take i) (s : Int) kind many).isSome = true := fun s hs => Or.inl (by unfold fitB; rw [decide_eq_false (show ¬ c.m.K = kind from h1)]; simp)
      refine c_rs (m_start ?_)
      refine m_mv rfl (wanted_rd rfl) (run_lssI (b := true) _ _ rfl (ev_out rfl b15) (ev_out rfl b14) (decide_eq_true (by omega)) _) ?_
      refine l_nx ?_
      refine c_nx (c_true (ev_in rfl (by omega)) (c_fin ?_))
      refine c_nx (c_block ?_)
      refine c_rs ?_
      refine m_mv rfl (wanted_rd rfl) (run_ixM _ _ rfl (ev_out rfl b13) (ev_out rfl b15) rfl hin _) ?_
      refine m_mv rfl (wanted_rd rfl) (run_lodM _ rfl (ev_in rfl (by omega)) hcell) ?_
      refine m_do rfl (wanted_rd rfl) (fun K hK => ?_)
      refine wp_allocG _ _ rfl zeroMs (of_decide_eq_true rfl) ?_
      intro w4 m4 k4 z4
      have mn4 := mn.below k4
      have mr4 := mr.below k4
      have mh4 := mh.below k4
      refine hK _ _ ?_
      clear hK K
      refine m_st (wanted_rd rfl) (fun K hK => ?_)
      refine wp_storeP _ _ _ _ rfl manyMs (ev_in rfl (by omega)) (ev_in rfl (by omega)) m4 (by decide) (lmF_one _) rfl ?_
      intro w5 mm5 k5 z5
      have mm5 := Vh.congr mm5 (stP_all4 _ _)
      have mn5 := mn4.kept k5 (by omega)
      have mr5 := mr4.kept k5 (by omega)
      have mh5 := mh4.kept k5 (by omega)
      refine hK _ ?_
      clear hK K
      refine l_nx ?_
      refine c_rs ?_
      refine m_mv rfl (wanted_rd rfl) (fldMs0 rfl (ev_in rfl (by omega)) _) ?_
      refine m_mv rfl (wanted_rd rfl) (run_lod1 _ _ rfl oneI (ev_in rfl (by omega)) mm5 (by decide) rfl) ?_
      refine m_mv rfl (wanted_rd rfl) (run_move _ rfl (ev_out rfl b2) _) ?_
      refine m_mv rfl (wanted_rd rfl) (run_eqlI (b := false) _ _ rfl (ev_in rfl (by omega)) (ev_in rfl (by omega)) (decide_eq_false h1) _) ?_
      refine m_mv rfl (wanted_rd rfl) (run_move _ rfl (ev_in rfl (by omega)) _) ?_
      refine m_skip rfl (wanted_n (j := 4) rfl rfl rfl (ev_in rfl (by omega)) (by decide)) ?_
      refine m_skip rfl (wanted_n (j := 4) rfl rfl rfl (ev_in rfl (by omega)) (by decide)) ?_
      refine m_skip rfl (wanted_n (j := 4) rfl rfl rfl (ev_in rfl (by omega)) (by decide)) ?_
      refine m_skip rfl (wanted_n (j := 4) rfl rfl rfl (ev_in rfl (by omega)) (by decide)) ?_
      refine m_skip rfl (wanted_n (j := 4) rfl rfl rfl (ev_in rfl (by omega)) (by decide)) ?_
      refine m_mv rfl (wanted_rd rfl) (run_pickF _ _ _ rfl (ev_in rfl (by omega)) (ev_const _ _) _) ?_
      refine m_mv rfl (wanted_rd rfl) (run_move _ rfl (ev_in rfl (by omega)) _) ?_
      refine m_skip rfl (wanted_n (j := 11) rfl rfl rfl (ev_in rfl (by omega)) (by decide)) ?_
      refine m_skip rfl (wanted_n (j := 11) rfl rfl rfl (ev_in rfl (by omega)) (by decide)) ?_
      refine m_skip rfl (wanted_n (j := 11) rfl rfl rfl (ev_in rfl (by omega)) (by decide)) ?_
      refine m_skip rfl (wanted_n (j := 11) rfl rfl rfl (ev_in rfl (by omega)) (by decide)) ?_
      refine m_skip rfl (wanted_n (j := 11) rfl rfl rfl (ev_in rfl (by omega)) (by decide)) ?_
      refine m_mv rfl (wanted_rd rfl) (run_pickF _ _ _ rfl (ev_in rfl (by omega)) (ev_const _ _) _) ?_
      refine m_mv rfl (wanted_rd rfl) (run_assign _ rfl (ev_in rfl (by omega)) _) ?_
      refine l_nx ?_
      refine c_rs ?_
      refine m_mv rfl (wanted_rd rfl) (run_move _ rfl (ev_in rfl (by omega)) _) ?_
      refine m_mv rfl (wanted_rd rfl) (run_move _ rfl (ev_in rfl (by omega)) _) ?_
      refine m_skip rfl (wanted_n (j := 1) rfl rfl rfl (ev_in rfl (by omega)) (by decide)) ?_
      refine m_skip rfl (wanted_n (j := 1) rfl rfl rfl (ev_in rfl (by omega)) (by decide)) ?_
      refine m_skip rfl (wanted_n (j := 1) rfl rfl rfl (ev_in rfl (by omega)) (by decide)) ?_
      refine m_mv rfl (wanted_rd rfl) (run_pickF _ _ _ rfl (ev_in rfl (by omega)) (ev_const _ _) _) ?_
      refine m_mv rfl (wanted_rd rfl) (run_move _ rfl (ev_in rfl (by omega)) _) ?_
      refine m_skip rfl (wanted_n (j := 6) rfl rfl rfl (ev_in rfl (by omega)) (by decide)) ?_
      refine m_skip rfl (wanted_n (j := 6) rfl rfl rfl (ev_in rfl (by omega)) (by decide)) ?_
      refine m_skip rfl (wanted_n (j := 6) rfl rfl rfl (ev_in rfl (by omega)) (by decide)) ?_
      refine m_skip rfl (wanted_n (j := 6) rfl rfl rfl (ev_in rfl (by omega)) (by decide)) ?_
      refine m_skip rfl (wanted_n (j := 6) rfl rfl rfl (ev_in rfl (by omega)) (by decide)) ?_
      refine m_mv rfl (wanted_rd rfl) (run_pickF _ _ _ rfl (ev_in rfl (by omega)) (ev_const _ _) _) ?_
      refine m_mv rfl (wanted_rd rfl) (run_move _ rfl (ev_in rfl (by omega)) _) ?_
      refine m_skip rfl (wanted_n (j := 13) rfl rfl rfl (ev_in rfl (by omega)) (by decide)) ?_
      refine m_skip rfl (wanted_n (j := 13) rfl rfl rfl (ev_in rfl (by omega)) (by decide)) ?_
      refine m_skip rfl (wanted_n (j := 13) rfl rfl rfl (ev_in rfl (by omega)) (by decide)) ?_
      refine m_skip rfl (wanted_n (j := 13) rfl rfl rfl (ev_in rfl (by omega)) (by decide)) ?_
      refine m_skip rfl (wanted_n (j := 13) rfl rfl rfl (ev_in rfl (by omega)) (by decide)) ?_
      refine m_skip rfl (wanted_n (j := 13) rfl rfl rfl (ev_in rfl (by omega)) (by decide)) ?_
      refine m_mv rfl (wanted_rd rfl) (run_pickF _ _ _ rfl (ev_in rfl (by omega)) (ev_const _ _) _) ?_
      refine l_nx ?_
      refine c_false (ev_in rfl (by omega)) (c_finB ?_)
      refine c_region ?_
      refine m_mv rfl (wanted_rd rfl) (run_addI _ _ rfl (ev_out rfl b15) (ev_const _ _) (by omega) (by omega) _) ?_
      refine m_mv rfl (wanted_rd rfl) (run_move _ rfl (ev_in rfl (by omega)) _) ?_
      exact l_round ⟨L.length - (i + 1), by omega, i + 1, by omega, by omega, (szL _ _).trans hs, (defL _ _).trans hd, (ev_out rfl b2), (ev_out rfl b3), (ev_out rfl b4), (ev_out rfl b8), (ev_out rfl b9), (ev_out rfl b13), (ev_out rfl b14), (ev_in rfl (by omega)).trans (by rw [Int.natCast_add]; rfl), mn5, mr5, by rw [take_snoc hc]; exact Vh.congr mh5 (hr_keep hkeep), below_of_kept (kB.trans (k4.mono (by omega))) k5 (by omega) (by omega), by omega⟩
  · refine c_rs (m_start ?_)
    refine m_mv rfl (wanted_rd rfl) (run_lssI (b := false) _ _ rfl (ev_out rfl b15) (ev_out rfl b14) (decide_eq_false (by omega)) _) ?_
    obtain rfl : i = L.length := by omega
    rw [List.take_length] at mh
    refine l_nx ?_
    refine c_nx (c_false (ev_in rfl (by omega)) (c_exit (x_out ?_)))
    refine c_rs ?_
    refine m_mv rfl (wanted_rd rfl) (run_loadP _ _ rfl manyHr (ev_out rfl b9) mh (by decide)) ?_
    refine m_st (wanted_rd rfl) (fun K hK => ?_)
    refine wp_storeP _ _ _ _ rfl manyHr (ev_out rfl b8) (ev_in rfl (by omega)) mr (by decide) (hrO_one _ _ _ _ _) rfl ?_
    intro w4 mm4 k4 z4
    have mr4 := Vh.congr mm4 (stP_all4 _ _)
    have mn4 := mn.kept k4 (by omega)
    have mh4 := mh.kept k4 (by omega)
    refine hK _ ?_
    clear hK K
    refine l_nx ?_
    refine c_ret (ret_of ((defL _ _).trans hd) (res_c rfl (ev_out rfl b8) manyHr mr4 (Nat.le_refl _)) ⟨rfl, below_of_kept kB k4 (by omega) (by omega)⟩)

end Go.Proofs.YtngmeaaglogieabGreat
