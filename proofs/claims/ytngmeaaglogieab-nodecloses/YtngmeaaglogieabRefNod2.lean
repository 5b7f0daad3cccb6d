/- Contracts of the reference: first. -/
import Derived.Test.YtngmeaaglogieabNear27
namespace Go.Proofs.Ytngmeaaglogieab
open Go.RowKit

theorem fL_none {id fr s kind many : Int} {L : List Lm} (h : ∀ (j : Nat) (c : Lm), L[j]? = some c → fitB id fr s kind many c.m = false) : fL id fr L s kind many = none := by
  unfold fL
  rw [List.find?_eq_none]
  intro c hc
  obtain ⟨j, hj⟩ := List.getElem?_of_mem hc
  rw [h j c hj]; decide
theorem fL_some {id fr s kind many : Int} {L : List Lm} {i : Nat} {c : Lm} (hc : L[i]? = some c) (h : ∀ (j : Nat) (c : Lm), j < i → L[j]? = some c → fitB id fr s kind many c.m = false) (hy : fitB id fr s kind many c.m = true) : fL id fr L s kind many = some c := by
  unfold fL
  induction L generalizing i with
  | nil => simp at hc
  | cons x L ih =>
    rw [List.find?_cons]
    cases i with
    | zero => simp at hc; subst hc; rw [hy]
    | succ i =>
      rw [h 0 x (by omega) rfl]
      exact ih (by simpa using hc) (fun j c hj hjc => h (j + 1) c (by omega) (by simpa using hjc))
/-- What is handed back of it. -/
def fstV : Option Lm → Value
  | some c => .tuple #[lmV c, .bool true]
  | none => .tuple #[.slice none 0 0, .bool false]
set_option maxHeartbeats 1000000 in
theorem refFirst_any (n : Nd) (v : Value) (ao : Option Addr) (cap : Nat) (L : List Lm) (s kind many : Int) (w : World) (hr : MRd w ao L) (hN : L.length ≤ 140737488351232) :
    Calls Try.prog 18 #[ndV n v, .slice ao L.length cap, .int .i64 s, .int .i64 kind, .int .i64 many] w fun e w' => e = .returned (fstV (fL n.id n.fr L s kind many)) ∧ Below w.heap.size w w' := by
  refine enterF Try.func18 rfl 54 rfl (of_decide_eq_true rfl) (fun A hs hd hb => ?_)
  have b0 := hb 0 _ rfl
  have b1 := hb 1 _ rfl
  have b2 := hb 2 _ rfl
  have b3 := hb 3 _ rfl
  have b4 := hb 4 _ rfl
  clear hb
  refine c_rs (m_start ?_)
  refine m_do rfl (wanted_rd rfl) (fun K hK => ?_)
  refine wp_boxG _ _ _ rfl (ev_out rfl b0) (of_decide_eq_true rfl) ?_
  intro w1 m1 k1 z1
  refine hK _ _ ?_
  clear hK K
  refine m_mv rfl (wanted_rd rfl) (run_assign _ rfl (ev_const _ _) _) ?_
  refine m_mv rfl (wanted_rd rfl) (run_assign _ rfl (ev_const _ _) _) ?_
  refine l_nx ?_
  refine c_nx ?_
  refine c_rs ?_
  refine m_mv rfl (wanted_rd rfl) (run_move _ rfl (ev_out rfl b1) _) ?_
  refine m_mv rfl (wanted_rd rfl) (run_lenM _ rfl (ev_in rfl (by omega)) _) ?_
  refine m_mv rfl (wanted_rd rfl) (run_move _ rfl (ev_const _ _) _) ?_
  refine l_nx ?_
  refine c_block ?_
  refine c_loop (fun r a W => ∃ i : Nat, i ≤ L.length ∧ L.length - i ≤ r ∧ a.tmps.size = 54 ∧ a.defers = [] ∧ a.eval (.tmp 2) = .int .i64 s ∧ a.eval (.tmp 3) = .int .i64 kind ∧ a.eval (.tmp 4) = .int .i64 many ∧ a.eval (.tmp 5) = .pointer (some ⟨w.heap.size, 0, none⟩) ∧ a.eval (.tmp 14) = .slice ao L.length cap ∧ a.eval (.tmp 15) = .int .i64 (L.length : Int) ∧ a.eval (.tmp 16) = .int .i64 (i : Int) ∧ (∀ j c, j < i → L[j]? = some c → fitB n.id n.fr s kind many c.m = false) ∧ Vh 37 W w.heap.size 74 74 (ndF n v) ∧ Below w.heap.size w W) L.length ⟨0, Nat.zero_le _, by omega, (szL _ _).trans hs, (defL _ _).trans hd, (ev_out rfl b2), (ev_out rfl b3), (ev_out rfl b4), (ev_in rfl (by omega)), (ev_in rfl (by omega)), (ev_in rfl (by omega)), (ev_in rfl (by omega)), fun j c h => absurd h (by omega), m1, k1⟩ (fun r B W hI => ?_)
  clear b0 b1 b2 b3 b4 hs hd m1
  obtain ⟨i, hi, hr2, hs, hd, b2, b3, b4, b5, b14, b15, b16, hne, mn, kB⟩ := hI
  have hW := mn.lt
  by_cases hin : i < L.length
  · have hc := List.getElem?_eq_getElem hin
    obtain ⟨c, ec⟩ : ∃ c, c = L[i] := ⟨_, rfl⟩
    rw [← ec] at hc
    obtain ⟨bl, of, rfl, hq⟩ := (hr.below kB).1 (by omega)
    have hcell := hq i c hc
    have w1 := W
    clear w1
    by_cases h1 : c.m.F = s
    · by_cases h2 : c.m.F ≠ n.id
      · by_cases h3 : c.m.K = kind
        · by_cases h4 : c.m.R = n.fr
          · by_cases h5 : (c.m.L.length : Int) = many
            · refine c_rs (m_start ?_)
              refine m_mv rfl (wanted_rd rfl) (run_lssI (b := true) _ _ rfl (ev_out rfl b16) (ev_out rfl b15) (decide_eq_true (by omega)) _) ?_
              refine l_nx ?_
              refine c_nx (c_true (ev_in rfl (by omega)) (c_fin ?_))
              refine c_nx (c_block ?_)
              refine c_rs ?_
              refine m_mv rfl (wanted_rd rfl) (run_ixM _ _ rfl (ev_out rfl b14) (ev_out rfl b16) rfl hin _) ?_
              refine m_mv rfl (wanted_rd rfl) (run_lodM _ rfl (ev_in rfl (by omega)) hcell) ?_
              refine m_do rfl (wanted_rd rfl) (fun K hK => ?_)
              refine wp_allocG _ _ rfl zeroMs (of_decide_eq_true rfl) ?_
              intro w2 m2 k2 z2
              have mn2 := mn.below k2
              refine hK _ _ ?_
              clear hK K
              refine m_st (wanted_rd rfl) (fun K hK => ?_)
              refine wp_storeP _ _ _ _ rfl manyMs (ev_in rfl (by omega)) (ev_in rfl (by omega)) m2 (by decide) (lmF_one _) rfl ?_
              intro w3 mm3 k3 z3
              have mm3 := Vh.congr mm3 (stP_all4 _ _)
              have mn3 := mn2.kept k3 (by omega)
              refine hK _ ?_
              clear hK K
              refine l_nx ?_
              refine c_rs ?_
              refine m_mv rfl (wanted_rd rfl) (fldMs1 rfl (ev_in rfl (by omega)) _) ?_
              refine m_mv rfl (wanted_rd rfl) (run_lod1 _ _ rfl oneI (ev_in rfl (by omega)) mm3 (by decide) rfl) ?_
              refine m_mv rfl (wanted_rd rfl) (run_move _ rfl (ev_out rfl b2) _) ?_
              refine m_mv rfl (wanted_rd rfl) (run_eqlI (b := true) _ _ rfl (ev_in rfl (by omega)) (ev_in rfl (by omega)) (decide_eq_true h1) _) ?_
              refine m_mv rfl (wanted_rd rfl) (run_move _ rfl (ev_in rfl (by omega)) _) ?_
              refine m_mv rfl (wanted_g (j := 4) rfl rfl rfl (ev_in rfl (by omega))) (fldMs1 rfl (ev_in rfl (by omega)) _) ?_
              refine m_mv rfl (wanted_g (j := 4) rfl rfl rfl (ev_in rfl (by omega))) (run_lod1 _ _ rfl oneI (ev_in rfl (by omega)) mm3 (by decide) rfl) ?_
              refine m_mv rfl (wanted_g (j := 4) rfl rfl rfl (ev_in rfl (by omega))) (fldNd0 rfl (ev_out rfl b5) _) ?_
              refine m_mv rfl (wanted_g (j := 4) rfl rfl rfl (ev_in rfl (by omega))) (run_lod1 _ _ rfl oneI (ev_in rfl (by omega)) mn3 (by decide) rfl) ?_
              refine m_mv rfl (wanted_g (j := 4) rfl rfl rfl (ev_in rfl (by omega))) (run_neqI (b := true) _ _ rfl (ev_in rfl (by omega)) (ev_in rfl (by omega)) (decide_eq_true h2) _) ?_
              refine m_mv rfl (wanted_rd rfl) (run_pickT' _ _ _ rfl (ev_in rfl (by omega)) (ev_in rfl (by omega)) _) ?_
              refine m_mv rfl (wanted_rd rfl) (run_move _ rfl (ev_in rfl (by omega)) _) ?_
              refine m_mv rfl (wanted_g (j := 11) rfl rfl rfl (ev_in rfl (by omega))) (fldMs0 rfl (ev_in rfl (by omega)) _) ?_
              refine m_mv rfl (wanted_g (j := 11) rfl rfl rfl (ev_in rfl (by omega))) (run_lod1 _ _ rfl oneI (ev_in rfl (by omega)) mm3 (by decide) rfl) ?_
              refine m_mv rfl (wanted_g (j := 11) rfl rfl rfl (ev_in rfl (by omega))) (run_move _ rfl (ev_out rfl b3) _) ?_
              refine m_mv rfl (wanted_g (j := 11) rfl rfl rfl (ev_in rfl (by omega))) (run_eqlI (b := true) _ _ rfl (ev_in rfl (by omega)) (ev_in rfl (by omega)) (decide_eq_true h3) _) ?_
              refine m_mv rfl (wanted_rd rfl) (run_pickT' _ _ _ rfl (ev_in rfl (by omega)) (ev_in rfl (by omega)) _) ?_
              refine m_mv rfl (wanted_rd rfl) (run_move _ rfl (ev_in rfl (by omega)) _) ?_
              refine m_mv rfl (wanted_g (j := 17) rfl rfl rfl (ev_in rfl (by omega))) (fldMs2 rfl (ev_in rfl (by omega)) _) ?_
              refine m_mv rfl (wanted_g (j := 17) rfl rfl rfl (ev_in rfl (by omega))) (run_lod1 _ _ rfl oneI (ev_in rfl (by omega)) mm3 (by decide) rfl) ?_
              refine m_mv rfl (wanted_g (j := 17) rfl rfl rfl (ev_in rfl (by omega))) (fldNd1 rfl (ev_out rfl b5) _) ?_
              refine m_mv rfl (wanted_g (j := 17) rfl rfl rfl (ev_in rfl (by omega))) (run_lod1 _ _ rfl oneI (ev_in rfl (by omega)) mn3 (by decide) rfl) ?_
              refine m_mv rfl (wanted_g (j := 17) rfl rfl rfl (ev_in rfl (by omega))) (run_eqlI (b := true) _ _ rfl (ev_in rfl (by omega)) (ev_in rfl (by omega)) (decide_eq_true h4) _) ?_
              refine m_mv rfl (wanted_rd rfl) (run_pickT' _ _ _ rfl (ev_in rfl (by omega)) (ev_in rfl (by omega)) _) ?_
              refine m_mv rfl (wanted_rd rfl) (run_move _ rfl (ev_in rfl (by omega)) _) ?_
              refine m_mv rfl (wanted_g (j := 24) rfl rfl rfl (ev_in rfl (by omega))) (fldMs3 rfl (ev_in rfl (by omega)) _) ?_
              refine m_mv rfl (wanted_g (j := 24) rfl rfl rfl (ev_in rfl (by omega))) (run_lod1 _ _ rfl oneIs (ev_in rfl (by omega)) mm3 (by decide) rfl) ?_
              refine m_mv rfl (wanted_g (j := 24) rfl rfl rfl (ev_in rfl (by omega))) (run_lenI _ rfl (ev_in rfl (by omega)) _) ?_
              refine m_mv rfl (wanted_g (j := 24) rfl rfl rfl (ev_in rfl (by omega))) (run_move _ rfl (ev_out rfl b4) _) ?_
              refine m_mv rfl (wanted_g (j := 24) rfl rfl rfl (ev_in rfl (by omega))) (run_eqlI (b := true) _ _ rfl (ev_in rfl (by omega)) (ev_in rfl (by omega)) (decide_eq_true h5) _) ?_
              refine m_mv rfl (wanted_rd rfl) (run_pickT' _ _ _ rfl (ev_in rfl (by omega)) (ev_in rfl (by omega)) _) ?_
              refine l_nx ?_
              refine c_true (ev_in rfl (by omega)) ?_
              refine c_rs ?_
              refine m_mv rfl (wanted_rd rfl) (fldMs3 rfl (ev_in rfl (by omega)) _) ?_
              refine m_mv rfl (wanted_rd rfl) (run_lod1 _ _ rfl oneIs (ev_in rfl (by omega)) mm3 (by decide) rfl) ?_
              refine m_mv rfl (wanted_rd rfl) (run_assign _ rfl (ev_in rfl (by omega)) _) ?_
              refine m_mv rfl (wanted_rd rfl) (run_assign _ rfl (ev_const _ _) _) ?_
              refine l_nx ?_
              refine c_ret ?_
              simp only [Nx, Exit.inBlock, Exit.then]
              refine ret_of ((defL _ _).trans hd) (res_tt rfl (ev_in rfl (by omega)) (ev_in rfl (by omega))) ⟨?_, below_of_kept (kB.trans (k2.mono kB.size)) k3 kB.size (Nat.le_trans kB.size k2.size)⟩
              rw [fL_some hc hne (by unfold fitB; rw [decide_eq_true h1, decide_eq_true h2, decide_eq_true h3, decide_eq_true h4, decide_eq_true h5]; rfl)]
              rfl
            · refine c_rs (m_start ?_)
              refine m_mv rfl (wanted_rd rfl) (run_lssI (b := true) _ _ rfl (ev_out rfl b16) (ev_out rfl b15) (decide_eq_true (by omega)) _) ?_
              refine l_nx ?_
              refine c_nx (c_true (ev_in rfl (by omega)) (c_fin ?_))
              refine c_nx (c_block ?_)
              refine c_rs ?_
              refine m_mv rfl (wanted_rd rfl) (run_ixM _ _ rfl (ev_out rfl b14) (ev_out rfl b16) rfl hin _) ?_
              refine m_mv rfl (wanted_rd rfl) (run_lodM _ rfl (ev_in rfl (by omega)) hcell) ?_
              refine m_do rfl (wanted_rd rfl) (fun K hK => ?_)
              refine wp_allocG _ _ rfl zeroMs (of_decide_eq_true rfl) ?_
              intro w2 m2 k2 z2
              have mn2 := mn.below k2
              refine hK _ _ ?_
              clear hK K
              refine m_st (wanted_rd rfl) (fun K hK => ?_)
              refine wp_storeP _ _ _ _ rfl manyMs (ev_in rfl (by omega)) (ev_in rfl (by omega)) m2 (by decide) (lmF_one _) rfl ?_
              intro w3 mm3 k3 z3
              have mm3 := Vh.congr mm3 (stP_all4 _ _)
              have mn3 := mn2.kept k3 (by omega)
              refine hK _ ?_
              clear hK K
              refine l_nx ?_
              refine c_rs ?_
              refine m_mv rfl (wanted_rd rfl) (fldMs1 rfl (ev_in rfl (by omega)) _) ?_
              refine m_mv rfl (wanted_rd rfl) (run_lod1 _ _ rfl oneI (ev_in rfl (by omega)) mm3 (by decide) rfl) ?_
              refine m_mv rfl (wanted_rd rfl) (run_move _ rfl (ev_out rfl b2) _) ?_
              refine m_mv rfl (wanted_rd rfl) (run_eqlI (b := true) _ _ rfl (ev_in rfl (by omega)) (ev_in rfl (by omega)) (decide_eq_true h1) _) ?_
              refine m_mv rfl (wanted_rd rfl) (run_move _ rfl (ev_in rfl (by omega)) _) ?_
              refine m_mv rfl (wanted_g (j := 4) rfl rfl rfl (ev_in rfl (by omega))) (fldMs1 rfl (ev_in rfl (by omega)) _) ?_
              refine m_mv rfl (wanted_g (j := 4) rfl rfl rfl (ev_in rfl (by omega))) (run_lod1 _ _ rfl oneI (ev_in rfl (by omega)) mm3 (by decide) rfl) ?_
              refine m_mv rfl (wanted_g (j := 4) rfl rfl rfl (ev_in rfl (by omega))) (fldNd0 rfl (ev_out rfl b5) _) ?_
              refine m_mv rfl (wanted_g (j := 4) rfl rfl rfl (ev_in rfl (by omega))) (run_lod1 _ _ rfl oneI (ev_in rfl (by omega)) mn3 (by decide) rfl) ?_
              refine m_mv rfl (wanted_g (j := 4) rfl rfl rfl (ev_in rfl (by omega))) (run_neqI (b := true) _ _ rfl (ev_in rfl (by omega)) (ev_in rfl (by omega)) (decide_eq_true h2) _) ?_
              refine m_mv rfl (wanted_rd rfl) (run_pickT' _ _ _ rfl (ev_in rfl (by omega)) (ev_in rfl (by omega)) _) ?_
              refine m_mv rfl (wanted_rd rfl) (run_move _ rfl (ev_in rfl (by omega)) _) ?_
              refine m_mv rfl (wanted_g (j := 11) rfl rfl rfl (ev_in rfl (by omega))) (fldMs0 rfl (ev_in rfl (by omega)) _) ?_
              refine m_mv rfl (wanted_g (j := 11) rfl rfl rfl (ev_in rfl (by omega))) (run_lod1 _ _ rfl oneI (ev_in rfl (by omega)) mm3 (by decide) rfl) ?_
              refine m_mv rfl (wanted_g (j := 11) rfl rfl rfl (ev_in rfl (by omega))) (run_move _ rfl (ev_out rfl b3) _) ?_
              refine m_mv rfl (wanted_g (j := 11) rfl rfl rfl (ev_in rfl (by omega))) (run_eqlI (b := true) _ _ rfl (ev_in rfl (by omega)) (ev_in rfl (by omega)) (decide_eq_true h3) _) ?_
              refine m_mv rfl (wanted_rd rfl) (run_pickT' _ _ _ rfl (ev_in rfl (by omega)) (ev_in rfl (by omega)) _) ?_
              refine m_mv rfl (wanted_rd rfl) (run_move _ rfl (ev_in rfl (by omega)) _) ?_
              refine m_mv rfl (wanted_g (j := 17) rfl rfl rfl (ev_in rfl (by omega))) (fldMs2 rfl (ev_in rfl (by omega)) _) ?_
              refine m_mv rfl (wanted_g (j := 17) rfl rfl rfl (ev_in rfl (by omega))) (run_lod1 _ _ rfl oneI (ev_in rfl (by omega)) mm3 (by decide) rfl) ?_
              refine m_mv rfl (wanted_g (j := 17) rfl rfl rfl (ev_in rfl (by omega))) (fldNd1 rfl (ev_out rfl b5) _) ?_
              refine m_mv rfl (wanted_g (j := 17) rfl rfl rfl (ev_in rfl (by omega))) (run_lod1 _ _ rfl oneI (ev_in rfl (by omega)) mn3 (by decide) rfl) ?_
              refine m_mv rfl (wanted_g (j := 17) rfl rfl rfl (ev_in rfl (by omega))) (run_eqlI (b := true) _ _ rfl (ev_in rfl (by omega)) (ev_in rfl (by omega)) (decide_eq_true h4) _) ?_
              refine m_mv rfl (wanted_rd rfl) (run_pickT' _ _ _ rfl (ev_in rfl (by omega)) (ev_in rfl (by omega)) _) ?_
              refine m_mv rfl (wanted_rd rfl) (run_move _ rfl (ev_in rfl (by omega)) _) ?_
              refine m_mv rfl (wanted_g (j := 24) rfl rfl rfl (ev_in rfl (by omega))) (fldMs3 rfl (ev_in rfl (by omega)) _) ?_
              refine m_mv rfl (wanted_g (j := 24) rfl rfl rfl (ev_in rfl (by omega))) (run_lod1 _ _ rfl oneIs (ev_in rfl (by omega)) mm3 (by decide) rfl) ?_
              refine m_mv rfl (wanted_g (j := 24) rfl rfl rfl (ev_in rfl (by omega))) (run_lenI _ rfl (ev_in rfl (by omega)) _) ?_
              refine m_mv rfl (wanted_g (j := 24) rfl rfl rfl (ev_in rfl (by omega))) (run_move _ rfl (ev_out rfl b4) _) ?_
              refine m_mv rfl (wanted_g (j := 24) rfl rfl rfl (ev_in rfl (by omega))) (run_eqlI (b := false) _ _ rfl (ev_in rfl (by omega)) (ev_in rfl (by omega)) (decide_eq_false h5) _) ?_
              refine m_mv rfl (wanted_rd rfl) (run_pickT' _ _ _ rfl (ev_in rfl (by omega)) (ev_in rfl (by omega)) _) ?_
              refine l_nx ?_
              refine c_false (ev_in rfl (by omega)) (c_finB ?_)
              refine c_region ?_
              refine m_mv rfl (wanted_rd rfl) (run_addI _ _ rfl (ev_out rfl b16) (ev_const _ _) (by omega) (by omega) _) ?_
              refine m_mv rfl (wanted_rd rfl) (run_move _ rfl (ev_in rfl (by omega)) _) ?_
              refine l_round ⟨L.length - (i + 1), by omega, i + 1, by omega, by omega, (szL _ _).trans hs, (defL _ _).trans hd, (ev_out rfl b2), (ev_out rfl b3), (ev_out rfl b4), (ev_out rfl b5), (ev_out rfl b14), (ev_out rfl b15), (ev_in rfl (by omega)).trans (by rw [Int.natCast_add]; rfl), ?_, mn3, below_of_kept (kB.trans (k2.mono kB.size)) k3 kB.size (Nat.le_trans kB.size k2.size)⟩
              exact fun j c' hj hc' => by
                by_cases e : j = i
                · subst e
                  rw [hc] at hc'
                  cases hc'
                  unfold fitB
                  rw [decide_eq_false h5]
                  simp
                · exact hne j c' (by omega) hc'
          · refine c_rs (m_start ?_)
            refine m_mv rfl (wanted_rd rfl) (run_lssI (b := true) _ _ rfl (ev_out rfl b16) (ev_out rfl b15) (decide_eq_true (by omega)) _) ?_
            refine l_nx ?_
            refine c_nx (c_true (ev_in rfl (by omega)) (c_fin ?_))
            refine c_nx (c_block ?_)
            refine c_rs ?_
            refine m_mv rfl (wanted_rd rfl) (run_ixM _ _ rfl (ev_out rfl b14) (ev_out rfl b16) rfl hin _) ?_
            refine m_mv rfl (wanted_rd rfl) (run_lodM _ rfl (ev_in rfl (by omega)) hcell) ?_
            refine m_do rfl (wanted_rd rfl) (fun K hK => ?_)
            refine wp_allocG _ _ rfl zeroMs (of_decide_eq_true rfl) ?_
            intro w2 m2 k2 z2
            have mn2 := mn.below k2
            refine hK _ _ ?_
            clear hK K
            refine m_st (wanted_rd rfl) (fun K hK => ?_)
            refine wp_storeP _ _ _ _ rfl manyMs (ev_in rfl (by omega)) (ev_in rfl (by omega)) m2 (by decide) (lmF_one _) rfl ?_
            intro w3 mm3 k3 z3
            have mm3 := Vh.congr mm3 (stP_all4 _ _)
            have mn3 := mn2.kept k3 (by omega)
            refine hK _ ?_
            clear hK K
            refine l_nx ?_
            refine c_rs ?_
            refine m_mv rfl (wanted_rd rfl) (fldMs1 rfl (ev_in rfl (by omega)) _) ?_
            refine m_mv rfl (wanted_rd rfl) (run_lod1 _ _ rfl oneI (ev_in rfl (by omega)) mm3 (by decide) rfl) ?_
            refine m_mv rfl (wanted_rd rfl) (run_move _ rfl (ev_out rfl b2) _) ?_
            refine m_mv rfl (wanted_rd rfl) (run_eqlI (b := true) _ _ rfl (ev_in rfl (by omega)) (ev_in rfl (by omega)) (decide_eq_true h1) _) ?_
            refine m_mv rfl (wanted_rd rfl) (run_move _ rfl (ev_in rfl (by omega)) _) ?_
            refine m_mv rfl (wanted_g (j := 4) rfl rfl rfl (ev_in rfl (by omega))) (fldMs1 rfl (ev_in rfl (by omega)) _) ?_
            refine m_mv rfl (wanted_g (j := 4) rfl rfl rfl (ev_in rfl (by omega))) (run_lod1 _ _ rfl oneI (ev_in rfl (by omega)) mm3 (by decide) rfl) ?_
            refine m_mv rfl (wanted_g (j := 4) rfl rfl rfl (ev_in rfl (by omega))) (fldNd0 rfl (ev_out rfl b5) _) ?_
            refine m_mv rfl (wanted_g (j := 4) rfl rfl rfl (ev_in rfl (by omega))) (run_lod1 _ _ rfl oneI (ev_in rfl (by omega)) mn3 (by decide) rfl) ?_
            refine m_mv rfl (wanted_g (j := 4) rfl rfl rfl (ev_in rfl (by omega))) (run_neqI (b := true) _ _ rfl (ev_in rfl (by omega)) (ev_in rfl (by omega)) (decide_eq_true h2) _) ?_
            refine m_mv rfl (wanted_rd rfl) (run_pickT' _ _ _ rfl (ev_in rfl (by omega)) (ev_in rfl (by omega)) _) ?_
            refine m_mv rfl (wanted_rd rfl) (run_move _ rfl (ev_in rfl (by omega)) _) ?_
            refine m_mv rfl (wanted_g (j := 11) rfl rfl rfl (ev_in rfl (by omega))) (fldMs0 rfl (ev_in rfl (by omega)) _) ?_
            refine m_mv rfl (wanted_g (j := 11) rfl rfl rfl (ev_in rfl (by omega))) (run_lod1 _ _ rfl oneI (ev_in rfl (by omega)) mm3 (by decide) rfl) ?_
            refine m_mv rfl (wanted_g (j := 11) rfl rfl rfl (ev_in rfl (by omega))) (run_move _ rfl (ev_out rfl b3) _) ?_
            refine m_mv rfl (wanted_g (j := 11) rfl rfl rfl (ev_in rfl (by omega))) (run_eqlI (b := true) _ _ rfl (ev_in rfl (by omega)) (ev_in rfl (by omega)) (decide_eq_true h3) _) ?_
            refine m_mv rfl (wanted_rd rfl) (run_pickT' _ _ _ rfl (ev_in rfl (by omega)) (ev_in rfl (by omega)) _) ?_
            refine m_mv rfl (wanted_rd rfl) (run_move _ rfl (ev_in rfl (by omega)) _) ?_
            refine m_mv rfl (wanted_g (j := 17) rfl rfl rfl (ev_in rfl (by omega))) (fldMs2 rfl (ev_in rfl (by omega)) _) ?_
            refine m_mv rfl (wanted_g (j := 17) rfl rfl rfl (ev_in rfl (by omega))) (run_lod1 _ _ rfl oneI (ev_in rfl (by omega)) mm3 (by decide) rfl) ?_
            refine m_mv rfl (wanted_g (j := 17) rfl rfl rfl (ev_in rfl (by omega))) (fldNd1 rfl (ev_out rfl b5) _) ?_
            refine m_mv rfl (wanted_g (j := 17) rfl rfl rfl (ev_in rfl (by omega))) (run_lod1 _ _ rfl oneI (ev_in rfl (by omega)) mn3 (by decide) rfl) ?_
            refine m_mv rfl (wanted_g (j := 17) rfl rfl rfl (ev_in rfl (by omega))) (run_eqlI (b := false) _ _ rfl (ev_in rfl (by omega)) (ev_in rfl (by omega)) (decide_eq_false h4) _) ?_
            refine m_mv rfl (wanted_rd rfl) (run_pickT' _ _ _ rfl (ev_in rfl (by omega)) (ev_in rfl (by omega)) _) ?_
            refine m_mv rfl (wanted_rd rfl) (run_move _ rfl (ev_in rfl (by omega)) _) ?_
            refine m_skip rfl (wanted_n (j := 24) rfl rfl rfl (ev_in rfl (by omega)) (by decide)) ?_
            refine m_skip rfl (wanted_n (j := 24) rfl rfl rfl (ev_in rfl (by omega)) (by decide)) ?_
            refine m_skip rfl (wanted_n (j := 24) rfl rfl rfl (ev_in rfl (by omega)) (by decide)) ?_
            refine m_skip rfl (wanted_n (j := 24) rfl rfl rfl (ev_in rfl (by omega)) (by decide)) ?_
            refine m_skip rfl (wanted_n (j := 24) rfl rfl rfl (ev_in rfl (by omega)) (by decide)) ?_
            refine m_mv rfl (wanted_rd rfl) (run_pickF _ _ _ rfl (ev_in rfl (by omega)) (ev_const _ _) _) ?_
            refine l_nx ?_
            refine c_false (ev_in rfl (by omega)) (c_finB ?_)
            refine c_region ?_
            refine m_mv rfl (wanted_rd rfl) (run_addI _ _ rfl (ev_out rfl b16) (ev_const _ _) (by omega) (by omega) _) ?_
            refine m_mv rfl (wanted_rd rfl) (run_move _ rfl (ev_in rfl (by omega)) _) ?_
            refine l_round ⟨L.length - (i + 1), by omega, i + 1, by omega, by omega, (szL _ _).trans hs, (defL _ _).trans hd, (ev_out rfl b2), (ev_out rfl b3), (ev_out rfl b4), (ev_out rfl b5), (ev_out rfl b14), (ev_out rfl b15), (ev_in rfl (by omega)).trans (by rw [Int.natCast_add]; rfl), ?_, mn3, below_of_kept (kB.trans (k2.mono kB.size)) k3 kB.size (Nat.le_trans kB.size k2.size)⟩
            exact fun j c' hj hc' => by
              by_cases e : j = i
              · subst e
                rw [hc] at hc'
                cases hc'
                unfold fitB
                rw [decide_eq_false h4]
                simp
              · exact hne j c' (by omega) hc'
        · refine c_rs (m_start ?_)
          refine m_mv rfl (wanted_rd rfl) (run_lssI (b := true) _ _ rfl (ev_out rfl b16) (ev_out rfl b15) (decide_eq_true (by omega)) _) ?_
          refine l_nx ?_
          refine c_nx (c_true (ev_in rfl (by omega)) (c_fin ?_))
          refine c_nx (c_block ?_)
          refine c_rs ?_
          refine m_mv rfl (wanted_rd rfl) (run_ixM _ _ rfl (ev_out rfl b14) (ev_out rfl b16) rfl hin _) ?_
          refine m_mv rfl (wanted_rd rfl) (run_lodM _ rfl (ev_in rfl (by omega)) hcell) ?_
          refine m_do rfl (wanted_rd rfl) (fun K hK => ?_)
          refine wp_allocG _ _ rfl zeroMs (of_decide_eq_true rfl) ?_
          intro w2 m2 k2 z2
          have mn2 := mn.below k2
          refine hK _ _ ?_
          clear hK K
          refine m_st (wanted_rd rfl) (fun K hK => ?_)
          refine wp_storeP _ _ _ _ rfl manyMs (ev_in rfl (by omega)) (ev_in rfl (by omega)) m2 (by decide) (lmF_one _) rfl ?_
          intro w3 mm3 k3 z3
          have mm3 := Vh.congr mm3 (stP_all4 _ _)
          have mn3 := mn2.kept k3 (by omega)
          refine hK _ ?_
          clear hK K
          refine l_nx ?_
          refine c_rs ?_
          refine m_mv rfl (wanted_rd rfl) (fldMs1 rfl (ev_in rfl (by omega)) _) ?_
          refine m_mv rfl (wanted_rd rfl) (run_lod1 _ _ rfl oneI (ev_in rfl (by omega)) mm3 (by decide) rfl) ?_
          refine m_mv rfl (wanted_rd rfl) (run_move _ rfl (ev_out rfl b2) _) ?_
          refine m_mv rfl (wanted_rd rfl) (run_eqlI (b := true) _ _ rfl (ev_in rfl (by omega)) (ev_in rfl (by omega)) (decide_eq_true h1) _) ?_
          refine m_mv rfl (wanted_rd rfl) (run_move _ rfl (ev_in rfl (by omega)) _) ?_
          refine m_mv rfl (wanted_g (j := 4) rfl rfl rfl (ev_in rfl (by omega))) (fldMs1 rfl (ev_in rfl (by omega)) _) ?_
          refine m_mv rfl (wanted_g (j := 4) rfl rfl rfl (ev_in rfl (by omega))) (run_lod1 _ _ rfl oneI (ev_in rfl (by omega)) mm3 (by decide) rfl) ?_
          refine m_mv rfl (wanted_g (j := 4) rfl rfl rfl (ev_in rfl (by omega))) (fldNd0 rfl (ev_out rfl b5) _) ?_
          refine m_mv rfl (wanted_g (j := 4) rfl rfl rfl (ev_in rfl (by omega))) (run_lod1 _ _ rfl oneI (ev_in rfl (by omega)) mn3 (by decide) rfl) ?_
          refine m_mv rfl (wanted_g (j := 4) rfl rfl rfl (ev_in rfl (by omega))) (run_neqI (b := true) _ _ rfl (ev_in rfl (by omega)) (ev_in rfl (by omega)) (decide_eq_true h2) _) ?_
          refine m_mv rfl (wanted_rd rfl) (run_pickT' _ _ _ rfl (ev_in rfl (by omega)) (ev_in rfl (by omega)) _) ?_
          refine m_mv rfl (wanted_rd rfl) (run_move _ rfl (ev_in rfl (by omega)) _) ?_
          refine m_mv rfl (wanted_g (j := 11) rfl rfl rfl (ev_in rfl (by omega))) (fldMs0 rfl (ev_in rfl (by omega)) _) ?_
          refine m_mv rfl (wanted_g (j := 11) rfl rfl rfl (ev_in rfl (by omega))) (run_lod1 _ _ rfl oneI (ev_in rfl (by omega)) mm3 (by decide) rfl) ?_
          refine m_mv rfl (wanted_g (j := 11) rfl rfl rfl (ev_in rfl (by omega))) (run_move _ rfl (ev_out rfl b3) _) ?_
          refine m_mv rfl (wanted_g (j := 11) rfl rfl rfl (ev_in rfl (by omega))) (run_eqlI (b := false) _ _ rfl (ev_in rfl (by omega)) (ev_in rfl (by omega)) (decide_eq_false h3) _) ?_
          refine m_mv rfl (wanted_rd rfl) (run_pickT' _ _ _ rfl (ev_in rfl (by omega)) (ev_in rfl (by omega)) _) ?_
          refine m_mv rfl (wanted_rd rfl) (run_move _ rfl (ev_in rfl (by omega)) _) ?_
          refine m_skip rfl (wanted_n (j := 17) rfl rfl rfl (ev_in rfl (by omega)) (by decide)) ?_
          refine m_skip rfl (wanted_n (j := 17) rfl rfl rfl (ev_in rfl (by omega)) (by decide)) ?_
          refine m_skip rfl (wanted_n (j := 17) rfl rfl rfl (ev_in rfl (by omega)) (by decide)) ?_
          refine m_skip rfl (wanted_n (j := 17) rfl rfl rfl (ev_in rfl (by omega)) (by decide)) ?_
          refine m_skip rfl (wanted_n (j := 17) rfl rfl rfl (ev_in rfl (by omega)) (by decide)) ?_
          refine m_mv rfl (wanted_rd rfl) (run_pickF _ _ _ rfl (ev_in rfl (by omega)) (ev_const _ _) _) ?_
          refine m_mv rfl (wanted_rd rfl) (run_move _ rfl (ev_in rfl (by omega)) _) ?_
          refine m_skip rfl (wanted_n (j := 24) rfl rfl rfl (ev_in rfl (by omega)) (by decide)) ?_
          refine m_skip rfl (wanted_n (j := 24) rfl rfl rfl (ev_in rfl (by omega)) (by decide)) ?_
          refine m_skip rfl (wanted_n (j := 24) rfl rfl rfl (ev_in rfl (by omega)) (by decide)) ?_
          refine m_skip rfl (wanted_n (j := 24) rfl rfl rfl (ev_in rfl (by omega)) (by decide)) ?_
          refine m_skip rfl (wanted_n (j := 24) rfl rfl rfl (ev_in rfl (by omega)) (by decide)) ?_
          refine m_mv rfl (wanted_rd rfl) (run_pickF _ _ _ rfl (ev_in rfl (by omega)) (ev_const _ _) _) ?_
          refine l_nx ?_
          refine c_false (ev_in rfl (by omega)) (c_finB ?_)
          refine c_region ?_
          refine m_mv rfl (wanted_rd rfl) (run_addI _ _ rfl (ev_out rfl b16) (ev_const _ _) (by omega) (by omega) _) ?_
          refine m_mv rfl (wanted_rd rfl) (run_move _ rfl (ev_in rfl (by omega)) _) ?_
          refine l_round ⟨L.length - (i + 1), by omega, i + 1, by omega, by omega, (szL _ _).trans hs, (defL _ _).trans hd, (ev_out rfl b2), (ev_out rfl b3), (ev_out rfl b4), (ev_out rfl b5), (ev_out rfl b14), (ev_out rfl b15), (ev_in rfl (by omega)).trans (by rw [Int.natCast_add]; rfl), ?_, mn3, below_of_kept (kB.trans (k2.mono kB.size)) k3 kB.size (Nat.le_trans kB.size k2.size)⟩
          exact fun j c' hj hc' => by
            by_cases e : j = i
            · subst e
              rw [hc] at hc'
              cases hc'
              unfold fitB
              rw [decide_eq_false h3]
              simp
            · exact hne j c' (by omega) hc'
      · refine c_rs (m_start ?_)
        refine m_mv rfl (wanted_rd rfl) (run_lssI (b := true) _ _ rfl (ev_out rfl b16) (ev_out rfl b15) (decide_eq_true (by omega)) _) ?_
        refine l_nx ?_
        refine c_nx (c_true (ev_in rfl (by omega)) (c_fin ?_))
        refine c_nx (c_block ?_)
        refine c_rs ?_
        refine m_mv rfl (wanted_rd rfl) (run_ixM _ _ rfl (ev_out rfl b14) (ev_out rfl b16) rfl hin _) ?_
        refine m_mv rfl (wanted_rd rfl) (run_lodM _ rfl (ev_in rfl (by omega)) hcell) ?_
        refine m_do rfl (wanted_rd rfl) (fun K hK => ?_)
        refine wp_allocG _ _ rfl zeroMs (of_decide_eq_true rfl) ?_
        intro w2 m2 k2 z2
        have mn2 := mn.below k2
        refine hK _ _ ?_
        clear hK K
        refine m_st (wanted_rd rfl) (fun K hK => ?_)
        refine wp_storeP _ _ _ _ rfl manyMs (ev_in rfl (by omega)) (ev_in rfl (by omega)) m2 (by decide) (lmF_one _) rfl ?_
        intro w3 mm3 k3 z3
        have mm3 := Vh.congr mm3 (stP_all4 _ _)
        have mn3 := mn2.kept k3 (by omega)
        refine hK _ ?_
        clear hK K
        refine l_nx ?_
        refine c_rs ?_
        refine m_mv rfl (wanted_rd rfl) (fldMs1 rfl (ev_in rfl (by omega)) _) ?_
        refine m_mv rfl (wanted_rd rfl) (run_lod1 _ _ rfl oneI (ev_in rfl (by omega)) mm3 (by decide) rfl) ?_
        refine m_mv rfl (wanted_rd rfl) (run_move _ rfl (ev_out rfl b2) _) ?_
        refine m_mv rfl (wanted_rd rfl) (run_eqlI (b := true) _ _ rfl (ev_in rfl (by omega)) (ev_in rfl (by omega)) (decide_eq_true h1) _) ?_
        refine m_mv rfl (wanted_rd rfl) (run_move _ rfl (ev_in rfl (by omega)) _) ?_
        refine m_mv rfl (wanted_g (j := 4) rfl rfl rfl (ev_in rfl (by omega))) (fldMs1 rfl (ev_in rfl (by omega)) _) ?_
        refine m_mv rfl (wanted_g (j := 4) rfl rfl rfl (ev_in rfl (by omega))) (run_lod1 _ _ rfl oneI (ev_in rfl (by omega)) mm3 (by decide) rfl) ?_
        refine m_mv rfl (wanted_g (j := 4) rfl rfl rfl (ev_in rfl (by omega))) (fldNd0 rfl (ev_out rfl b5) _) ?_
        refine m_mv rfl (wanted_g (j := 4) rfl rfl rfl (ev_in rfl (by omega))) (run_lod1 _ _ rfl oneI (ev_in rfl (by omega)) mn3 (by decide) rfl) ?_
        refine m_mv rfl (wanted_g (j := 4) rfl rfl rfl (ev_in rfl (by omega))) (run_neqI (b := false) _ _ rfl (ev_in rfl (by omega)) (ev_in rfl (by omega)) (decide_eq_false h2) _) ?_
        refine m_mv rfl (wanted_rd rfl) (run_pickT' _ _ _ rfl (ev_in rfl (by omega)) (ev_in rfl (by omega)) _) ?_
        refine m_mv rfl (wanted_rd rfl) (run_move _ rfl (ev_in rfl (by omega)) _) ?_
        refine m_skip rfl (wanted_n (j := 11) rfl rfl rfl (ev_in rfl (by omega)) (by decide)) ?_
        refine m_skip rfl (wanted_n (j := 11) rfl rfl rfl (ev_in rfl (by omega)) (by decide)) ?_
        refine m_skip rfl (wanted_n (j := 11) rfl rfl rfl (ev_in rfl (by omega)) (by decide)) ?_
        refine m_skip rfl (wanted_n (j := 11) rfl rfl rfl (ev_in rfl (by omega)) (by decide)) ?_
        refine m_mv rfl (wanted_rd rfl) (run_pickF _ _ _ rfl (ev_in rfl (by omega)) (ev_const _ _) _) ?_
        refine m_mv rfl (wanted_rd rfl) (run_move _ rfl (ev_in rfl (by omega)) _) ?_
        refine m_skip rfl (wanted_n (j := 17) rfl rfl rfl (ev_in rfl (by omega)) (by decide)) ?_
        refine m_skip rfl (wanted_n (j := 17) rfl rfl rfl (ev_in rfl (by omega)) (by decide)) ?_
        refine m_skip rfl (wanted_n (j := 17) rfl rfl rfl (ev_in rfl (by omega)) (by decide)) ?_
        refine m_skip rfl (wanted_n (j := 17) rfl rfl rfl (ev_in rfl (by omega)) (by decide)) ?_
        refine m_skip rfl (wanted_n (j := 17) rfl rfl rfl (ev_in rfl (by omega)) (by decide)) ?_
        refine m_mv rfl (wanted_rd rfl) (run_pickF _ _ _ rfl (ev_in rfl (by omega)) (ev_const _ _) _) ?_
        refine m_mv rfl (wanted_rd rfl) (run_move _ rfl (ev_in rfl (by omega)) _) ?_
        refine m_skip rfl (wanted_n (j := 24) rfl rfl rfl (ev_in rfl (by omega)) (by decide)) ?_
        refine m_skip rfl (wanted_n (j := 24) rfl rfl rfl (ev_in rfl (by omega)) (by decide)) ?_
        refine m_skip rfl (wanted_n (j := 24) rfl rfl rfl (ev_in rfl (by omega)) (by decide)) ?_
        refine m_skip rfl (wanted_n (j := 24) rfl rfl rfl (ev_in rfl (by omega)) (by decide)) ?_
        refine m_skip rfl (wanted_n (j := 24) rfl rfl rfl (ev_in rfl (by omega)) (by decide)) ?_
        refine m_mv rfl (wanted_rd rfl) (run_pickF _ _ _ rfl (ev_in rfl (by omega)) (ev_const _ _) _) ?_
        refine l_nx ?_
        refine c_false (ev_in rfl (by omega)) (c_finB ?_)
        refine c_region ?_
        refine m_mv rfl (wanted_rd rfl) (run_addI _ _ rfl (ev_out rfl b16) (ev_const _ _) (by omega) (by omega) _) ?_
        refine m_mv rfl (wanted_rd rfl) (run_move _ rfl (ev_in rfl (by omega)) _) ?_
        refine l_round ⟨L.length - (i + 1), by omega, i + 1, by omega, by omega, (szL _ _).trans hs, (defL _ _).trans hd, (ev_out rfl b2), (ev_out rfl b3), (ev_out rfl b4), (ev_out rfl b5), (ev_out rfl b14), (ev_out rfl b15), (ev_in rfl (by omega)).trans (by rw [Int.natCast_add]; rfl), ?_, mn3, below_of_kept (kB.trans (k2.mono kB.size)) k3 kB.size (Nat.le_trans kB.size k2.size)⟩
        exact fun j c' hj hc' => by
          by_cases e : j = i
          · subst e
            rw [hc] at hc'
            cases hc'
            unfold fitB
            rw [decide_eq_false h2]
            simp
          · exact hne j c' (by omega) hc'
    · refine c_rs (m_start ?_)
      refine m_mv rfl (wanted_rd rfl) (run_lssI (b := true) _ _ rfl (ev_out rfl b16) (ev_out rfl b15) (decide_eq_true (by omega)) _) ?_
      refine l_nx ?_
      refine c_nx (c_true (ev_in rfl (by omega)) (c_fin ?_))
      refine c_nx (c_block ?_)
      refine c_rs ?_
      refine m_mv rfl (wanted_rd rfl) (run_ixM _ _ rfl (ev_out rfl b14) (ev_out rfl b16) rfl hin _) ?_
      refine m_mv rfl (wanted_rd rfl) (run_lodM _ rfl (ev_in rfl (by omega)) hcell) ?_
      refine m_do rfl (wanted_rd rfl) (fun K hK => ?_)
      refine wp_allocG _ _ rfl zeroMs (of_decide_eq_true rfl) ?_
      intro w2 m2 k2 z2
      have mn2 := mn.below k2
      refine hK _ _ ?_
      clear hK K
      refine m_st (wanted_rd rfl) (fun K hK => ?_)
      refine wp_storeP _ _ _ _ rfl manyMs (ev_in rfl (by omega)) (ev_in rfl (by omega)) m2 (by decide) (lmF_one _) rfl ?_
      intro w3 mm3 k3 z3
      have mm3 := Vh.congr mm3 (stP_all4 _ _)
      have mn3 := mn2.kept k3 (by omega)
      refine hK _ ?_
      clear hK K
      refine l_nx ?_
      refine c_rs ?_
      refine m_mv rfl (wanted_rd rfl) (fldMs1 rfl (ev_in rfl (by omega)) _) ?_
      refine m_mv rfl (wanted_rd rfl) (run_lod1 _ _ rfl oneI (ev_in rfl (by omega)) mm3 (by decide) rfl) ?_
      refine m_mv rfl (wanted_rd rfl) (run_move _ rfl (ev_out rfl b2) _) ?_
      refine m_mv rfl (wanted_rd rfl) (run_eqlI (b := false) _ _ rfl (ev_in rfl (by omega)) (ev_in rfl (by omega)) (decide_eq_false h1) _) ?_
      refine m_mv rfl (wanted_rd rfl) (run_move _ rfl (ev_in rfl (by omega)) _) ?_
      refine m_skip rfl (wanted_n (j := 4) rfl rfl rfl (ev_in rfl (by omega)) (by decide)) ?_
      refine m_skip rfl (wanted_n (j := 4) rfl rfl rfl (ev_in rfl (by omega)) (by decide)) ?_
      refine m_skip rfl (wanted_n (j := 4) rfl rfl rfl (ev_in rfl (by omega)) (by decide)) ?_
      refine m_skip rfl (wanted_n (j := 4) rfl rfl rfl (ev_in rfl (by omega)) (by decide)) ?_
      refine m_skip rfl (wanted_n (j := 4) rfl rfl rfl (ev_in rfl (by omega)) (by decide)) ?_
      refine m_mv rfl (wanted_rd rfl) (run_pickF _ _ _ rfl (ev_in rfl (by omega)) (ev_const _ _) _) ?_
      refine m_mv rfl (wanted_rd rfl) (run_move _ rfl (ev_in rfl (by omega)) _) ?_
      refine m_skip rfl (wanted_n (j := 11) rfl rfl rfl (ev_in rfl (by omega)) (by decide)) ?_
      refine m_skip rfl (wanted_n (j := 11) rfl rfl rfl (ev_in rfl (by omega)) (by decide)) ?_
      refine m_skip rfl (wanted_n (j := 11) rfl rfl rfl (ev_in rfl (by omega)) (by decide)) ?_
      refine m_skip rfl (wanted_n (j := 11) rfl rfl rfl (ev_in rfl (by omega)) (by decide)) ?_
      refine m_mv rfl (wanted_rd rfl) (run_pickF _ _ _ rfl (ev_in rfl (by omega)) (ev_const _ _) _) ?_
      refine m_mv rfl (wanted_rd rfl) (run_move _ rfl (ev_in rfl (by omega)) _) ?_
      refine m_skip rfl (wanted_n (j := 17) rfl rfl rfl (ev_in rfl (by omega)) (by decide)) ?_
      refine m_skip rfl (wanted_n (j := 17) rfl rfl rfl (ev_in rfl (by omega)) (by decide)) ?_
      refine m_skip rfl (wanted_n (j := 17) rfl rfl rfl (ev_in rfl (by omega)) (by decide)) ?_
      refine m_skip rfl (wanted_n (j := 17) rfl rfl rfl (ev_in rfl (by omega)) (by decide)) ?_
      refine m_skip rfl (wanted_n (j := 17) rfl rfl rfl (ev_in rfl (by omega)) (by decide)) ?_
      refine m_mv rfl (wanted_rd rfl) (run_pickF _ _ _ rfl (ev_in rfl (by omega)) (ev_const _ _) _) ?_
      refine m_mv rfl (wanted_rd rfl) (run_move _ rfl (ev_in rfl (by omega)) _) ?_
      refine m_skip rfl (wanted_n (j := 24) rfl rfl rfl (ev_in rfl (by omega)) (by decide)) ?_
      refine m_skip rfl (wanted_n (j := 24) rfl rfl rfl (ev_in rfl (by omega)) (by decide)) ?_
      refine m_skip rfl (wanted_n (j := 24) rfl rfl rfl (ev_in rfl (by omega)) (by decide)) ?_
      refine m_skip rfl (wanted_n (j := 24) rfl rfl rfl (ev_in rfl (by omega)) (by decide)) ?_
      refine m_skip rfl (wanted_n (j := 24) rfl rfl rfl (ev_in rfl (by omega)) (by decide)) ?_
      refine m_mv rfl (wanted_rd rfl) (run_pickF _ _ _ rfl (ev_in rfl (by omega)) (ev_const _ _) _) ?_
      refine l_nx ?_
      refine c_false (ev_in rfl (by omega)) (c_finB ?_)
      refine c_region ?_
      refine m_mv rfl (wanted_rd rfl) (run_addI _ _ rfl (ev_out rfl b16) (ev_const _ _) (by omega) (by omega) _) ?_
      refine m_mv rfl (wanted_rd rfl) (run_move _ rfl (ev_in rfl (by omega)) _) ?_
      refine l_round ⟨L.length - (i + 1), by omega, i + 1, by omega, by omega, (szL _ _).trans hs, (defL _ _).trans hd, (ev_out rfl b2), (ev_out rfl b3), (ev_out rfl b4), (ev_out rfl b5), (ev_out rfl b14), (ev_out rfl b15), (ev_in rfl (by omega)).trans (by rw [Int.natCast_add]; rfl), ?_, mn3, below_of_kept (kB.trans (k2.mono kB.size)) k3 kB.size (Nat.le_trans kB.size k2.size)⟩
      exact fun j c' hj hc' => by
        by_cases e : j = i
        · subst e
          rw [hc] at hc'
          cases hc'
          unfold fitB
          rw [decide_eq_false h1]
          simp
        · exact hne j c' (by omega) hc'
  · have hin2 : ¬ (i : Int) < (L.length : Int) := by omega
    refine c_rs (m_start ?_)
    refine m_mv rfl (wanted_rd rfl) (run_lssI (b := false) _ _ rfl (ev_out rfl b16) (ev_out rfl b15) (decide_eq_false (by omega)) _) ?_
    refine l_nx ?_
    refine c_nx (c_false (ev_in rfl (by omega)) (c_exit (x_out ?_)))
    refine c_rs ?_
    refine m_mv rfl (wanted_rd rfl) (run_assign _ rfl (ev_const _ _) _) ?_
    refine m_mv rfl (wanted_rd rfl) (run_assign _ rfl (ev_const _ _) _) ?_
    refine l_nx ?_
    refine c_ret ?_
    refine ret_of ((defL _ _).trans hd) (res_tt rfl (ev_in rfl (by omega)) (ev_in rfl (by omega))) ⟨?_, kB⟩
    rw [fL_none (fun j c hj => hne j c (by have := (List.getElem?_eq_some_iff.1 hj).1; omega) hj)]
    rfl

end Go.Proofs.Ytngmeaaglogieab
