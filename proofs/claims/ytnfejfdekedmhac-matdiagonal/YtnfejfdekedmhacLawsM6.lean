/- The walk of MatDiagonal. -/
import Derived.Test.YtnfejfdekedmhacMatStands
import Derived.Test.YtnfejfdekedmhacMatFaceS
import Derived.Test.YtnfejfdekedmhacMatClone
import Derived.Laws.Cover1
namespace Go.Proofs.Ytnfejfdekedmhac
open Go.RowKit

/-- Numbers on a diagonal. -/
def IsDiag (n : Nat) (D M : Nat → Int) : Prop := ∀ a c, a < n → c < n → M (a * n + c) = if a = c then D a else 0
def DiagTo (n i : Nat) (D M : Nat → Int) : Prop := ∀ a c, a < n → c < n → M (a * n + c) = if a = c ∧ a < i then D a else 0
theorem diagTo_step {n i : Nat} {D M : Nat → Int} (h : DiagTo n i D M) (hi : i < n) : DiagTo n (i + 1) D (stF M (i * n + i) (D i)) := by
  intro a c ha hc
  by_cases e : a = i ∧ c = i
  · obtain ⟨rfl, rfl⟩ := e
    rw [stF_same, if_pos (by omega)]
  · rw [stF_other _ _ (by intro q; exact e (idx_inj hi hc q)), h a c ha hc]
    by_cases e2 : a = c ∧ a < i
    · rw [if_pos e2, if_pos (by omega)]
    · rw [if_neg e2, if_neg (by omega)]
theorem diagTo_end {n : Nat} {D M : Nat → Int} (h : DiagTo n n D M) : IsDiag n D M := by
  intro a c ha hc
  rw [h a c ha hc]
  by_cases e : a = c
  · rw [if_pos ⟨e, ha⟩, if_pos e]
  · rw [if_neg (fun q => e q.1), if_neg e]
theorem rsV_nil {s : Int} {a b d : Nat → Int} (hs : R64 s) : ∀ {k : Nat}, (∀ t, t < k → b t = 0) → rsV s a b d k = s
  | 0, _ => rfl
  | k + 1, h => by
    show clampZ (rsV s a b d k - clampZ (mulQ (clampZ (mulQ (a k) (b k))) (d k))) = s
    rw [rsV_nil hs (fun t ht => h t (by omega)), h k (by omega), mulQ_nil, clampZ_in R64_nought, mulQ_nil', clampZ_in R64_nought, Int.sub_zero, clampZ_in hs]
theorem sbV_nil {s : Int} {a y : Nat → Int} (hs : R64 s) : ∀ {k : Nat}, (∀ t, t < k → a t = 0) → sbV s a y k = s
  | 0, _ => rfl
  | k + 1, h => by
    show clampZ (sbV s a y k - clampZ (mulQ (a k) (y k))) = s
    rw [sbV_nil hs (fun t ht => h t (by omega)), h k (by omega), mulQ_nil', clampZ_in R64_nought, Int.sub_zero, clampZ_in hs]
theorem div_nil (b : Int) : divV 0 b = 0 := by
  unfold divV
  split
  · unfold overV; rw [if_pos rfl]
  · rename_i hb
    have e : divQ 0 b = 0 := by
      have h1 : 1 ≤ absZ b := by unfold absZ; split <;> omega
      have h2 : sgnZ (decide (b < 0)) 0 = 0 := by unfold sgnZ; split <;> rfl
      unfold divQ
      rw [h2, Int.zero_mul, Int.mul_zero, Int.zero_add]
      exact Int.ediv_eq_zero_of_lt (by omega) (by omega)
    rw [e]; exact clampZ_in R64_nought
theorem diag_L {n : Nat} {D M : Nat → Int} (hM : IsDiag n D M) : ∀ (j a c : Nat), j ≤ n → a < n → c < j → a ≠ c → (fac n M j).1 a c = 0
  | 0, _, _, _, _, h, _ => absurd h (by omega)
  | j + 1, a, c, hj, ha, hc, hne => by
    rcases Nat.lt_or_ge c j with h | h
    · rw [fac_keeps n M (by omega)]; exact diag_L hM j a c (by omega) ha h hne
    · have e : c = j := by omega
      subst e
      rw [fac_new n M hne]
      have : facR n M c a = 0 := by
        unfold facR
        rw [hM a c ha (by omega), if_neg hne]
        exact rsV_nil R64_nought (fun t ht => diag_L hM c c t (by omega) (by omega) ht (by omega))
      rw [this]; exact div_nil _
theorem diag_P {n j : Nat} {D M : Nat → Int} (hM : IsDiag n D M) (hD : ∀ i, R64 (D i)) (hj : j < n) : facP n M j = D j := by
  unfold facP
  rw [hM j j hj hj, if_pos rfl]
  exact rsV_nil (hD j) (fun t ht => diag_L hM j j t (by omega) hj ht (by omega))
theorem diag_D {n : Nat} {D M : Nat → Int} (hM : IsDiag n D M) (hD : ∀ i, R64 (D i)) : ∀ {j i : Nat}, j ≤ n → i < j → (fac n M j).2 i = D i
  | 0, _, _, h => absurd h (by omega)
  | j + 1, i, hj, h => by
    rw [facD_new]
    rcases Nat.lt_or_ge i j with h1 | h1
    · rw [stF_other _ _ (by omega)]; exact diag_D hM hD (by omega) h1
    · have : i = j := by omega
      subst this; rw [stF_same]; exact diag_P hM hD (by omega)
theorem diag_g {n a c : Nat} {D M g : Nat → Int} (hM : IsDiag n D M) (hg : IsM n M n g) (ha : a < n) (hc : c < n) (hne : a ≠ c) : g (a * n + c) = 0 := by
  rw [hg a c ha hc]
  unfold facM
  by_cases h : c < n ∧ c ≤ a
  · rw [if_pos h]; exact diag_L hM n a c (Nat.le_refl _) ha hc hne
  · rw [if_neg h, if_pos (by omega)]
theorem diag_down {n : Nat} {D M g v : Nat → Int} (hM : IsDiag n D M) (hg : IsM n M n g) (hv : ∀ i, R64 (v i)) : ∀ {i : Nat}, i ≤ n → ∀ t, dnF n g v i t = v t
  | 0, _, _ => rfl
  | i + 1, hi, t => by
    show stF (dnF n g v i) i (sbV (v i) (rowF n g i) (dnF n g v i) i) t = v t
    have e0 : sbV (v i) (rowF n g i) (dnF n g v i) i = v i := sbV_nil (hv i) (fun k hk => diag_g hM hg (by omega) (by omega) (by omega))
    rw [e0]
    by_cases e : t = i
    · subst e; rw [stF_same]
    · rw [stF_other _ _ e]; exact diag_down hM hg hv (by omega) t
theorem dvF_done {y d : Nat → Int} : ∀ {i t : Nat}, t < i → dvF y d i t = divV (y t) (d t)
  | 0, _, h => absurd h (by omega)
  | i + 1, t, h => by
    show stF (dvF y d i) i (divV (y i) (d i)) t = _
    by_cases e : t = i
    · subst e; rw [stF_same]
    · rw [stF_other _ _ e]; exact dvF_done (by omega)
theorem diag_up {n : Nat} {D M g y : Nat → Int} (hM : IsDiag n D M) (hg : IsM n M n g) (hy : ∀ i, R64 (y i)) : ∀ {m : Nat}, m ≤ n → ∀ t, upF n g y m t = y t
  | 0, _, _ => rfl
  | m + 1, hm, t => by
    rw [upF_step (i := n - 1 - m) rfl, sbV_nil (hy _) (fun k hk => diag_g hM hg (by omega) (by omega) (by omega))]
    by_cases e : t = n - 1 - m
    · subst e; rw [stF_same]
    · rw [stF_other _ _ e]; exact diag_up hM hg hy (by omega) t
theorem diag_solve {n : Nat} {D M g v : Nat → Int} (hM : IsDiag n D M) (hD : ∀ i, R64 (D i)) (hg : IsM n M n g) (hv : ∀ i, R64 (v i)) {t : Nat} (ht : t < n) : upF n g (dvF (dnF n g v n) (fac n M n).2 n) n t = divV (v t) (D t) := by
  rw [diag_up hM hg (dvF_R (dnF_R hv n) n) (Nat.le_refl _), dvF_done ht, diag_down hM hg hv (Nat.le_refl _), diag_D hM hD (Nat.le_refl _) ht]
theorem diag_ok {n : Nat} {D M : Nat → Int} (hM : IsDiag n D M) (hD : ∀ i, R64 (D i)) : facOK n M n ↔ ∀ i, i < n → 0 < D i :=
  ⟨fun h i hi => by rw [← diag_P hM hD hi]; exact h i hi, fun h t ht => by rw [diag_P hM hD ht]; exact h t ht⟩
/-- Are the first i numbers above nought? -/
def posTo (D : Nat → Int) : Nat → Bool
  | 0 => true
  | i + 1 => posTo D i && decide (0 < D i)
theorem posTo_iff {D : Nat → Int} : ∀ {n : Nat}, posTo D n = true ↔ ∀ i, i < n → 0 < D i
  | 0 => ⟨fun _ _ h => absurd h (by omega), fun _ => rfl⟩
  | n + 1 => by
    show (posTo D n && decide (0 < D n)) = true ↔ _
    rw [Bool.and_eq_true, posTo_iff, decide_eq_true_eq]
    constructor
    · rintro ⟨h1, h2⟩ i hi
      rcases Nat.lt_or_ge i n with h | h
      · exact h1 i h
      · have : i = n := by omega
        subst this; exact h2
    · intro h
      exact ⟨fun i hi => h i (by omega), h n (by omega)⟩

def ClP (b i c k : Nat) (x y : Int) (w : World) : Prop := w.cell? ⟨b, i, none⟩ = some (.int .i64 x) ∧ w.cell? ⟨c, k, none⟩ = some (.int .i64 y)

set_option maxRecDepth 100000 in
set_option maxHeartbeats 8000000 in
theorem matDiagonal_walk {w : World} (ao : Option Addr) (l0 c0 : Nat) (D : Nat → Int) (bo : Option Addr) (l1 c1 : Nat) (v : Nat → Int) (aa : ArgS w ao l0 c0 D) (_ra : l0 ≤ c0) (ab : ArgS w bo l1 c1 v) (rb : l1 ≤ c1) :
    Calls Try.prog 3 #[.slice ao l0 c0, .slice bo l1 c1] w fun e w' => e = .returned (.bool true) ∧ Below w.heap.size w w' := by
  obtain ⟨n, en⟩ : ∃ n, n = min (min l0 l1) 6 := ⟨_, rfl⟩
  have hmn : (if (6 : Int) < (if (l1 : Int) < (l0 : Int) then (l1 : Int) else (l0 : Int)) then 6 else (if (l1 : Int) < (l0 : Int) then (l1 : Int) else (l0 : Int))) = (n : Int) := by
    split <;> split at * <;> omega
  have hmin : ∀ w, (Builtin.min_ #[3, 3, 3] 3 #[.int .i64 (l0 : Int), .int .i64 (l1 : Int), .int .i64 6]).run Try.prog w = .ok (.int .i64 (n : Int)) w := by
    intro w
    rw [run_min_int3, hmn]
  have hn0 : n ≤ l0 := by omega
  have hn1 : n ≤ l1 := by omega
  have h6 : n ≤ 6 := by omega
  have hl0 := aa.2.1; have hl1 := ab.2.1
  have AA := hide aa; have AB := hide ab; have RD := hide aa.2.2; have RV := hide ab.2.2
  clear aa ab hmn en
  rcases Nat.eq_zero_or_pos n with hz | h1
  · subst hz
    go_enter Try.func3, Try.ntmps3
    go_wp2_with fail
    refine (stands_any _).mono ?_
    rintro e w1 ⟨rfl, k1⟩
    have K1 := hide k1
    clear k1 hmin
    go_wp2_with fail
    go_ret
    exact ⟨rfl, unhide K1⟩
  · obtain ⟨bd, od, rfl, hcd⟩ := (unhide AA).rds (by omega)
    obtain ⟨bb, ob, rfl, hcb⟩ := (unhide AB).rds (by omega)
    have tz : ((n : Int) == 0) = false := by simp; omega
    obtain ⟨q, hq⟩ : ∃ q, n * n = q := ⟨_, rfl⟩
    have hq36 : q ≤ 36 := by rw [← hq]; exact sq_le h6
    have hmk := makeFull q (by omega)
    have wq : IntKind.i64.wrap ((n : Int) * (n : Int)) = (q : Int) := by rw [wrap_sq h6 h6, hq]
    have HQ := hide hq; have HCD := hide hcd; have HCB := hide hcb
    have HBD := hide (show bd < w.heap.size from World.block_lt_of_cell? w ⟨bd, od + 0, none⟩ (hcd 0 (by omega)))
    have HBB := hide (show bb < w.heap.size from World.block_lt_of_cell? w ⟨bb, ob + 0, none⟩ (hcb 0 (by omega)))
    clear hq hcd hcb
    obtain ⟨w1, e1⟩ : ∃ w1, w1 = (w.alloc (.cells (madeCells #[.int .i64 0] q) 3)).alloc (.cells #[.int .i64 (n : Int), .slice (some ⟨w.heap.size, 0, none⟩) q q] 25) := ⟨_, rfl⟩
    have F0 := hide (show Nh w1 w.heap.size q q (fun _ => 0) ∧ MbAt w1 (w.heap.size + 1) (n : Int) (.slice (some ⟨w.heap.size, 0, none⟩) q q) ∧ Below w.heap.size w w1 from by
      rw [e1]
      refine ⟨(Nh.made w q (by unfold maxLen; omega)).below (al_below _ _), ?_, ((Below.refl _ _).alloc (Nat.le_refl _) _).alloc (by rw [al_size]; omega) _⟩
      have h := MbAt.new (w.alloc (.cells (madeCells #[.int .i64 0] q) 3)) (n : Int) (.slice (some ⟨w.heap.size, 0, none⟩) q q)
      rw [al_size] at h
      exact h)
    have E1 := hide e1
    clear e1
    go_enter Try.func3, Try.ntmps3
    go_wp2_with fail
    rw [← unhide E1]
    clear hmk hmin wq tz
    go_loopw [7, 8] (fun os is wr => ∃ (i : Nat) (M : Nat → Int), is = .int .i64 i ∧ i ≤ n ∧ os = .bool (posTo D i) ∧ Nh wr w.heap.size q q M ∧ (∀ t, R64 (M t)) ∧ DiagTo n i D M ∧ MbAt wr (w.heap.size + 1) (n : Int) (.slice (some ⟨w.heap.size, 0, none⟩) q q) ∧ Below w.heap.size w wr)
      (fun _ is _ => n - (intOf is).toNat)
    case atStart => exact ⟨0, _, rfl, Nat.zero_le _, rfl, (unhide F0).1, fun _ => R64_nought, fun a c _ _ => by rw [if_neg (by omega)], (unhide F0).2.1, (unhide F0).2.2⟩
    case round =>
      obtain ⟨i, M, rfl, hi, rfl, hN, hR, hT, hV, hB⟩ := hrel
      have HN := hide hN; have HR := hide hR; have HT := hide hT; have HV := hide hV; have HB := hide hB
      clear hN hR hT hV hB
      rename World => wr
      by_cases hin : i < n
      · have hp := idx_lt hin hin
        rw [unhide HQ] at hp
        have wp := wrap_sq h6 (show i ≤ 6 by omega)
        obtain ⟨p, ep⟩ : ∃ p, i * n = p := ⟨_, rfl⟩
        rw [ep] at wp hp
        obtain ⟨s, es⟩ : ∃ s, p + i = s := ⟨_, rfl⟩
        rw [es] at hp
        have ws : IntKind.i64.wrap ((p : Int) + (i : Int)) = (s : Int) := by rw [IntKind.wrap_i64]; omega
        have v1 := (unhide HV).cell1
        have cm := (unhide HN).cell hp; have fm := (unhide HN).free s
        have cd := at_below (unhide HCD i (by omega)) (unhide HB)
        have hil : i < l0 := by omega
        have ES := hide (show i * n + i = s by rw [ep, es])
        have hbd := unhide HBD
        clear ep es
        obtain ⟨dv, edv⟩ : ∃ dv, D i = dv := ⟨_, rfl⟩
        rw [edv] at cd
        have RDV := hide (show R64 dv by rw [← edv]; exact unhide RD i)
        have k8 := kept_set wr w.heap.size s (.int .i64 dv)
        have F := hide (show Nh (wr.setCell ⟨w.heap.size, s, none⟩ (.int .i64 dv)).drew w.heap.size q q (stF M s dv) ∧ (∀ t, R64 (stF M s dv t)) ∧ DiagTo n (i + 1) D (stF M s dv) ∧ MbAt (wr.setCell ⟨w.heap.size, s, none⟩ (.int .i64 dv)).drew (w.heap.size + 1) (n : Int) (.slice (some ⟨w.heap.size, 0, none⟩) q q) ∧ Below w.heap.size w (wr.setCell ⟨w.heap.size, s, none⟩ (.int .i64 dv)).drew from
          ⟨(unhide HN).set s dv, stF_R (unhide HR) (unhide RDV), by rw [← unhide ES, ← edv]; exact diagTo_step (unhide HT) hin, MbAt.kept (w' := wr.setCell ⟨w.heap.size, s, none⟩ (.int .i64 dv)) (unhide HV) k8 (by omega), below_drew (below_of_kept (unhide HB) k8 (Nat.le_refl _) (unhide HB).size)⟩)
        have EP := hide (show posTo D (i + 1) = (posTo D i && decide (0 < dv)) by show (posTo D i && decide (0 < D i)) = _; rw [edv])
        have CD2 := hide (show (wr.setCell ⟨w.heap.size, s, none⟩ (.int .i64 dv)).drew.cell? ⟨bd, od + i, none⟩ = some (.int .i64 dv) from at_kept (w' := wr.setCell ⟨w.heap.size, s, none⟩ (.int .i64 dv)) cd k8 (by show bd ≠ w.heap.size; omega))
        clear edv k8
        cases hb : posTo D i
        · rw [hb] at EP
          go_wp2_with fail
          go_region
          generalize (wr.setCell ⟨w.heap.size, s, none⟩ (.int .i64 dv)).drew = w8 at *
          clear v1 cm fm cd wp ws
          go_wp2_with fail
          go_roundw
          case rel => exact ⟨i + 1, _, by go_num, by omega, by rw [unhide EP]; rfl, (unhide F).1, (unhide F).2.1, (unhide F).2.2.1, (unhide F).2.2.2.1, (unhide F).2.2.2.2⟩
          case measure => simp [intOf] <;> omega
        · rw [hb] at EP
          go_wp2_with fail
          go_region
          generalize (wr.setCell ⟨w.heap.size, s, none⟩ (.int .i64 dv)).drew = w8 at *
          have cd2 := unhide CD2
          clear v1 cm fm cd wp ws
          go_wp2_with fail
          go_roundw
          case rel => exact ⟨i + 1, _, by go_num, by omega, by rw [unhide EP]; simp, (unhide F).1, (unhide F).2.1, (unhide F).2.2.1, (unhide F).2.2.2.1, (unhide F).2.2.2.2⟩
          case measure => simp [intOf] <;> omega
      · have hin2 : i = n := by omega
        subst hin2
        obtain ⟨i0, hi0, hz0, hz1, hz2⟩ := info_parts infoInt
        have HM := hide (diagTo_end (unhide HT))
        have hS : Cl2 (w.heap.size + 1) (.int .i64 (i : Int)) (.slice (some ⟨w.heap.size, 0, none⟩) q q) wr.drew := ⟨(unhide HV).cell0, (unhide HV).cell1⟩
        have hil1 : (i : Int) ≤ (c1 : Int) := by omega
        have hic1 : i ≤ c1 := by omega
        go_wp2_with fail
        refine region_by (S := Cl2 (w.heap.size + 1) (.int .i64 (i : Int)) (.slice (some ⟨w.heap.size, 0, none⟩) q q))
          [(0, false), (1, false), (2, false), (3, false), (4, true), (5, true), (6, false), (7, false), (8, false), (9, false), (10, true), (11, true), (12, true)] [] (by kernel_rfl) (by kernel_rfl) ?_
        iterate 4
          refine seq_read (v := ?_) rfl (fun _ _ _ h => h) (by rfl) hS ?_ ?_
          rotate_left 1
          · intro wx hwx
            obtain ⟨q1, q2⟩ := hwx
            go_simp <;> exact rfl
          go_frame
        refine seq_do rfl (fun K hK => ?_)
        rw [if_pos (by rfl)]
        refine wp_append_own (P := Try.prog) _ (.const (.slice none 0 0)) (.tmp 58) 22 rfl wr.heap.size 3 i0 (.int .i64 0) 1 8 Try.underlying22 hi0 hz0 hz1 hz2 rfl (by decide) (.slice none 0 0) 0 [] rfl (World.ownsRow_nil _ _ _ _) ⟨bb, ob, none⟩ i c1 (rowL v i) rfl (rowL_len _ _) (rowL_cells (w := wr.drew) (fun t ht => at_below (w' := wr.drew) (unhide HCB t (by omega)) (below_drew (unhide HB)))) (rowL_one _ _) (by unfold maxLen; omega) (by omega) (Nat.le_refl _) ?_
        intro v' w5 hown hgr hnil
        rw [Nat.zero_add, List.nil_append] at hown
        obtain ⟨rb5, cb5, rfl, hrb, nb5⟩ := Nh.of_owns h1 hown (fun t ht => rowL_at v ht)
        have k5 : Below wr.heap.size wr.drew w5 := below_grown hgr (by intro k h; cases h)
        have hS5 : Cl2 (w.heap.size + 1) (.int .i64 (i : Int)) (.slice (some ⟨w.heap.size, 0, none⟩) q q) w5 := Cl2.below (w := wr.drew) hS k5
        refine hK _ _ (fun _ => hS5) ?_
        have N5 := hide (Nh.below (w := wr.drew) (unhide HN) k5); have NB := hide nb5
        have B5 := hide (show Below w.heap.size w w5 from (below_drew (unhide HB)).trans (Below.le k5 (unhide HB).size))
        clear hK K hS hown hgr hnil hrb nb5 k5
        refine seq_do rfl (fun K hK => ?_)
        go_simp
        have SG := solve_good i (some ⟨w.heap.size, 0, none⟩) (some ⟨rb5, 0, none⟩) q cb5 M v w5 h1 h6 (unhide HR) (unhide RV) (by rw [unhide HQ]; exact (unhide N5).rds) (unhide NB).rds
        rw [unhide HQ] at SG
        refine SG.mono ?_
        clear SG
        rintro e w6 (⟨ok, u, cu, g, hg, rfl, hu, nu, k6⟩ | ⟨nok, rfl, k6⟩)
        · have hS6 := hS5.below k6
          refine hK _ _ (fun _ => hS6) ?_
          have NU := hide nu; have HG := hide hg
          have B6 := hide (show Below w.heap.size w w6 from (unhide B5).trans (Below.le k6 (unhide B5).size))
          have HP := hide ((diag_ok (unhide HM) (unhide RD)).1 ok)
          have EPos := hide (show posTo D i = true from posTo_iff.2 (unhide HP))
          rw [unhide EPos]
          clear hK K hS5 ok hg hu nu k6
          iterate 4
            refine seq_read (v := ?_) rfl (fun _ _ _ h => h) (by rfl) hS6 ?_ ?_
            rotate_left 1
            · intro wx hwx
              clear hwx
              go_simp <;> exact rfl
            go_frame
          iterate 3
            refine seq_do rfl (fun K hK => ?_)
            go_simp
            refine hK _ _ (fun _ => hS6) ?_
            clear hK K
          clear hS6
          refine seq_end ?_
          have tn : ((i : Int) != (i : Int)) = false := by simp
          go_wp2_with fail
          clear tn
          go_loopw [12, 13, 14] (fun js _ _ wy => ∃ j : Nat, js = .int .i64 j ∧ j ≤ i ∧ Below w6.heap.size w6 wy) (fun js _ _ _ => i - (intOf js).toNat)
          case atStart => exact ⟨0, rfl, Nat.zero_le _, Below.refl _ _⟩
          case round =>
            obtain ⟨j, rfl, hj, hB⟩ := hrel
            have HBU := hide hB
            have HBW := hide (show Below w.heap.size w _ from (unhide B6).trans (Below.le hB (unhide B6).size))
            clear hB
            rename World => wy
            by_cases hji : j < i
            · have hS7 : ClP bb (ob + j) bd (od + j) (v j) (D j) wy.drew := ⟨at_below (w' := wy.drew) (unhide HCB j (by omega)) (below_drew (unhide HBW)), at_below (w' := wy.drew) (unhide HCD j (by omega)) (below_drew (unhide HBW))⟩
              have hjl0 : j < l0 := by omega
              have hjl1 : j < l1 := by omega
              go_wp2_with fail
              refine region_by (S := ClP bb (ob + j) bd (od + j) (v j) (D j))
                [(0, false), (1, false), (2, false), (3, false), (4, false), (5, false), (6, false), (7, false), (8, true), (9, false), (10, false), (11, false), (12, true), (13, true)] [] (by kernel_rfl) (by kernel_rfl) ?_
              iterate 8
                refine seq_read (v := ?_) rfl (fun _ _ _ h => h) (by rfl) hS7 ?_ ?_
                rotate_left 1
                · intro wx hwx
                  obtain ⟨q1, q2⟩ := hwx
                  go_simp <;> exact rfl
                go_frame
              refine seq_do rfl (fun K hK => ?_)
              go_simp
              refine (div_any (v j) (D j) (unhide RV j) (unhide RD j) _).mono ?_
              rintro e w7 ⟨kd, rfl, hw7⟩
              have hS8 : ClP bb (ob + j) bd (od + j) (v j) (D j) w7 := by rw [hw7]; exact hS7
              have F := hide (show Below w6.heap.size w6 w7 from by rw [hw7]; have h := unhide HBU; exact ⟨h.os, h.tape, h.output, h.size, h.block⟩)
              refine hK _ _ (fun _ => hS8) ?_
              clear hK K hw7 hS7
              iterate 3
                refine seq_read (v := ?_) rfl (fun _ _ _ h => h) (by rfl) hS8 ?_ ?_
                rotate_left 1
                · intro wx hwx
                  clear hwx
                  go_simp <;> exact rfl
                go_frame
              iterate 2
                refine seq_do rfl (fun K hK => ?_)
                go_simp
                refine hK _ _ (fun _ => hS8) ?_
                clear hK K
              clear hS8
              refine seq_end ?_
              have cx : w7.cell? ⟨u, j, none⟩ = some (.int .i64 (divV (v j) (D j))) := by
                have := ((unhide NU).below (unhide F)).cell hji
                rw [diag_solve (unhide HM) (unhide RD) (unhide HG) (unhide RV) hji] at this
                exact this
              have tv : (divV (v j) (D j) != divV (v j) (D j)) = false := by simp
              go_wp2_with fail
              go_roundw
              case rel => exact ⟨j + 1, by go_num, by omega, unhide F⟩
              case measure => simp [intOf] <;> omega
            · have hji2 : j = i := by omega
              subst hji2
              go_wp2_with fail
              refine (stands_any _).mono ?_
              rintro e w9 ⟨rfl, k9⟩
              have K9 := hide (show Below w.heap.size w w9 from (unhide HBW).trans (Below.le k9 (unhide HBW).size))
              clear k9
              go_wp2_with fail
              go_ret
              exact ⟨rfl, unhide K9⟩
        · have hS6 := hS5.below k6
          refine hK _ _ (fun _ => hS6) ?_
          have B6 := hide (show Below w.heap.size w w6 from (unhide B5).trans (Below.le k6 (unhide B5).size))
          have EPos := hide (show posTo D i = false from by
            cases hp : posTo D i
            · rfl
            · exact absurd ((diag_ok (unhide HM) (unhide RD)).2 (posTo_iff.1 hp)) nok)
          rw [unhide EPos]
          clear hK K hS5 nok k6
          iterate 4
            refine seq_read (v := ?_) rfl (fun _ _ _ h => h) (by rfl) hS6 ?_ ?_
            rotate_left 1
            · intro wx hwx
              clear hwx
              go_simp <;> exact rfl
            go_frame
          iterate 3
            refine seq_do rfl (fun K hK => ?_)
            go_simp
            refine hK _ _ (fun _ => hS6) ?_
            clear hK K
          clear hS6
          refine seq_end ?_
          go_wp2_with fail
          refine (stands_any _).mono ?_
          rintro e w9 ⟨rfl, k9⟩
          have K9 := hide (show Below w.heap.size w w9 from (unhide B6).trans (Below.le k9 (unhide B6).size))
          clear k9
          go_wp2_with fail
          go_ret
          exact ⟨rfl, unhide K9⟩

end Go.Proofs.Ytnfejfdekedmhac
