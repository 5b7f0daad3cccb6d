/- Contracts: Factor of the reference, walked. -/
import Derived.Test.YtnfejfdekedmhaaRefFac
namespace Go.Proofs.Ytnfejfdekedmhaa
open Go.RowKit

set_option maxRecDepth 100000 in
set_option maxHeartbeats 8000000 in
theorem refFactor_good (n : Nat) (ao : Option Addr) (cap : Nat) (f : Nat → Int) (w : World) (h1 : 1 ≤ n) (h6 : n ≤ 6) (hf : ∀ i, R64 (f i)) (hr : Rds w ao (n * n) f) :
    Calls Try.prog 22 #[.agg #[.int .i64 (n : Int), .slice ao (n * n) cap]] w fun e w' =>
      (facOK n f n ∧ ∃ (r c u cu : Nat) (g : Nat → Int), e = .returned (.tuple #[.agg #[.int .i64 (n : Int), .slice (some ⟨r, 0, none⟩) (n * n) c], .slice (some ⟨u, 0, none⟩) n cu, .bool (facB n f n), .int .i64 0]) ∧
        Nh w' r (n * n) c g ∧ (∀ i, R64 (g i)) ∧ IsM n f n g ∧ Nh w' u n cu (facP n f) ∧ Below w.heap.size w w') ∨
      (¬ facOK n f n ∧ e = .returned (.tuple #[.agg #[.int .i64 0, .slice none 0 0], .slice none 0 0, .bool false, .int .i64 9]) ∧ Below w.heap.size w w') := by
  obtain ⟨i0, hi0, hz0, hz1, hz2⟩ := info_parts infoInt
  obtain ⟨ba, o, rfl, hc⟩ := hr (Nat.mul_le_mul h1 h1)
  have G := hide (goodM_nat h1 h6)
  have HBA := hide (show ba < w.heap.size from World.block_lt_of_cell? w ⟨ba, o + 0, none⟩ (hc 0 (Nat.mul_le_mul h1 h1)))
  obtain ⟨w1, e1, m0, m1, k1, s1⟩ := mat_two w (n : Int) (.slice (some ⟨ba, o, none⟩) (n * n) cap)
  have c0 := m0.cell0; have c1 := m0.cell1
  have E1 := hide e1; have M0 := hide m0; have M1 := hide m1; have K1 := hide k1; have S1 := hide s1; have HF := hide hf; have HC := hide hc; have H1 := hide h1
  clear e1 m0 m1 k1 s1 hc hr hf h1
  go_enter Try.func22, Try.ntmps22
  go_wp2_with fail
  rw [← unhide E1]
  go_wp2_with fail
  refine (goodMat_any (n : Int) _ (n * n) cap _).mono ?_
  rintro e w2 ⟨rfl, k2⟩
  rw [unhide G]
  have S2 := hide (show w.heap.size + 1 + 1 ≤ w2.heap.size from by have := unhide S1; have := k2.size; omega)
  have K2 := hide (show Below w.heap.size w w2 from (unhide K1).trans (Below.le k2 (by have := unhide S1; omega)))
  have m0 := (unhide M0).below k2
  have M2 := hide ((unhide M1).below k2)
  have M02 := hide m0
  clear k2 c0 c1
  have c0 := m0.cell0; have c1 := m0.cell1; have cl := m0.lt
  clear m0
  go_wp2_with fail
  go_loopw [11, 12, 13] (fun js _ _ wr => ∃ (j c : Nat) (at_ : Option Addr) (L : Nat → Int), js = .int .i64 j ∧ j ≤ n ∧ facOK n f j ∧ RfAt wr (w2.heap.size + 1) (facB n f j) ∧ FcJ w w2.heap.size ba o n cap j c at_ f L wr ∧ FL n f j L)
    (fun js _ _ _ => n - (intOf js).toNat)
  case atStart =>
    refine ⟨0, 0, none, fun _ => 0, rfl, Nat.zero_le _, fun _ h => absurd h (by omega), (fac_start w w2 n ba o cap f (unhide M02) (unhide M2) (unhide K2) (unhide HC) _ (by rfl)).1, (fac_start w w2 n ba o cap f (unhide M02) (unhide M2) (unhide K2) (unhide HC) _ (by rfl)).2, fl_start n f⟩
  case round =>
    obtain ⟨j, c, at_, L, rfl, hj, hok, hR, hJ, hT⟩ := hrel
    clear c0 c1 cl
    have cn := hJ.lj.cn
    have HOK := hide hok; have HR := hide hR; have HJ := hide hJ; have HT := hide hT
    clear hok hR hJ hT
    have NE := hide (show w.heap.size ≠ w2.heap.size + 1 ∧ w2.heap.size ≠ w2.heap.size + 1 ∧ w2.heap.size + 1 + 1 ≠ w2.heap.size + 1 ∧ w2.heap.size + 1 + 1 + 1 ≠ w2.heap.size + 1 ∧ w2.heap.size + 1 + 1 + 1 + 1 ≠ w2.heap.size + 1 ∧ ba ≠ w2.heap.size + 1 ∧ w2.heap.size + 1 < w2.heap.size + 1 + 1 + 1 + 1 + 1 from by
      have := unhide S2; have := unhide HBA
      refine ⟨by omega, by omega, by omega, by omega, by omega, by omega, by omega⟩)
    by_cases hjn : j < n
    · have EP := hide (fl_P (unhide HT) hjn)
      go_wp2_with fail
      clear cn
      refine (left_any w.heap.size w2.heap.size (w2.heap.size + 1 + 1) (w2.heap.size + 1 + 1 + 1) (w2.heap.size + 1 + 1 + 1 + 1) (w2.heap.size + 1) ba o n cap (w2.heap.size + 1 + 1 + 1 + 1 + 1) j c j j at_ f L (facP n f) _ _ h6 hjn hjn (Nat.le_refl _) (unhide HF) (unhide HJ).rl (facP_R (unhide HF)) (unhide NE) (unhide HJ).lj (unhide HR)).mono ?_
      rintro e w3 ⟨rfl, h3, k3⟩
      rw [(unhide EP).1]
      rw [(unhide EP).2] at h3
      have J3 := hide ((unhide HJ).kept k3 rfl (unhide S2) (unhide HBA)); have R3 := hide h3
      have HP := hide (facP_R (n := n) (unhide HF) j)
      obtain ⟨p, ep⟩ : ∃ p, p = facP n f j := ⟨_, rfl⟩
      rw [← ep] at HP ⊢
      have E := hide ep
      clear h3 k3 ep HR HJ
      have hj6 : (j : Int) < 6 := by omega
      by_cases hp : p < 1
      · have d0 := (unhide J3).mr.cell0; have d1 := (unhide J3).mr.cell1; have f0 := (unhide J3).mr.free 0; have f1 := (unhide J3).mr.free 1
        go_wp2_with fail
        obtain ⟨w5, e5, m5, k5⟩ := (unhide J3).mr.put 0 (.slice none 0 0)
        rw [← e5]
        have p0 := m5.cell0; have p1 := m5.cell1
        have F := hide (below_of_kept (unhide J3).bel k5 (by omega) (unhide J3).bel.size)
        clear e5 m5 k5 d0 d1 f0 f1
        go_wp2_with fail
        refine bodyPost_ret (v := .tuple #[.agg #[.int .i64 0, .slice none 0 0], .slice none 0 0, .bool false, .int .i64 9]) (by simp [results, Try.results22, go_sem, p0, p1]) rfl (Or.inr ⟨fun hh => ?_, rfl, unhide F⟩)
        have := hh j hjn
        rw [← unhide E] at this
        omega
      · have cj := (unhide J3).lj.cl.cell (show j * 6 + j < 36 by omega); have fj := (unhide J3).lj.cl.free (j * 6 + j)
        have J4 := hide ((unhide J3).setL (j * 6 + j) (x := 4294967296) (by unfold R64; omega) (unhide S2) (unhide HBA))
        have R4 := hide ((unhide R3).kept (kept_set w3 (w2.heap.size + 1 + 1 + 1) (j * 6 + j) (.int .i64 4294967296)) (by omega))
        have T4 := hide (fi_start h6 (unhide HT) hjn)
        go_wp2_with fail
        clear cj fj
        go_loopw [13] (fun is wr => ∃ (t : Nat) (L2 : Nat → Int), is = .int .i64 ((j + 1 + t : Nat) : Int) ∧ j + 1 + t ≤ n ∧ RfAt wr (w2.heap.size + 1) (facB n f j || facPB n f j || anyB (fun t => facRB n f j (j + 1 + t)) t) ∧ FcJ w w2.heap.size ba o n cap j c at_ f L2 wr ∧ FI n f j (j + 1 + t) L2)
          (fun is _ => n - (intOf is).toNat)
        case atStart =>
          refine ⟨0, _, by go_num, by omega, ?_, unhide J4, unhide T4⟩
          show RfAt _ _ (_ || false)
          rw [Bool.or_false]; exact unhide R4
        case round =>
          obtain ⟨t, L2, rfl, ht, hR, hJ, hT⟩ := hrel
          have cn := hJ.lj.cn
          have HR2 := hide hR; have HJ2 := hide hJ; have HT2 := hide hT
          clear hR hJ hT
          obtain ⟨i, ei⟩ : ∃ i, j + 1 + t = i := ⟨_, rfl⟩
          rw [ei] at HT2 ht ⊢
          rename World => wr
          by_cases hin : i < n
          · have ER := hide (fi_R (unhide HT2) hin (by omega))
            have hi6 : (i : Int) < 6 := by omega
            have hS : Cl1 (w2.heap.size + 1 + 1) 0 (.pointer (some ⟨w2.heap.size + 1, 0, none⟩)) wr.drew := (unhide HJ2).lj.cr
            go_wp2_with fail
            clear cn
            refine region_by (S := Cl1 (w2.heap.size + 1 + 1) 0 (.pointer (some ⟨w2.heap.size + 1, 0, none⟩)))
              [(0, false), (1, false), (2, false), (3, false), (4, false), (5, false), (7, false), (9, false), (6, true), (8, true), (10, false), (11, true)] [11] (by kernel_rfl) (by kernel_rfl) ?_
            iterate 8
              refine seq_read (v := ?_) rfl (fun _ _ _ h => h) (by rfl) hS ?_ ?_
              rotate_left 1
              · intro wx hwx
                unfold Cl1 at hwx
                go_simp <;> exact rfl
              go_frame
            refine seq_do rfl (fun K hK => ?_)
            go_simp
            refine (left_any w.heap.size w2.heap.size (w2.heap.size + 1 + 1) (w2.heap.size + 1 + 1 + 1) (w2.heap.size + 1 + 1 + 1 + 1) (w2.heap.size + 1) ba o n cap (w2.heap.size + 1 + 1 + 1 + 1 + 1) j c i j at_ f L2 (facP n f) _ _ h6 hin hjn (Nat.le_refl _) (unhide HF) (unhide HJ2).rl (facP_R (unhide HF)) (unhide NE) ((unhide HJ2).kept (kept_drew wr) rfl (unhide S2) (unhide HBA)).lj (show RfAt wr.drew _ _ from unhide HR2)).mono ?_
            rintro e w5 ⟨rfl, h5, k5⟩
            rw [(unhide ER).1]
            rw [(unhide ER).2] at h5
            have J5 := hide ((unhide HJ2).kept ((kept_drew wr).trans k5 (Or.inl rfl)) rfl (unhide S2) (unhide HBA)); have R5 := hide h5
            have hS5 : Cl1 (w2.heap.size + 1 + 1) 0 (.pointer (some ⟨w2.heap.size + 1, 0, none⟩)) w5 := (unhide J5).lj.cr
            refine hK _ _ (fun _ => hS5) ?_
            clear hK K hS h5 k5
            refine seq_do rfl (fun K hK => ?_)
            go_simp
            refine (rfDiv_ok _ _ _ _ _ (rsV_R _ _ _ (unhide HF _) _) (unhide HP) (unhide R5)).mono ?_
            rintro e w7 ⟨rfl, h7, k7⟩
            have J7 := hide ((unhide J5).kept k7 rfl (unhide S2) (unhide HBA)); have R7 := hide h7
            have hS7 : Cl1 (w2.heap.size + 1 + 1) 0 (.pointer (some ⟨w2.heap.size + 1, 0, none⟩)) w7 := (unhide J7).lj.cr
            refine hK _ _ (fun _ => hS7) ?_
            clear hK K hS5 h7 k7
            refine seq_read (v := ?_) rfl (fun _ _ _ h => h) (by rfl) hS7 ?_ ?_
            rotate_left 1
            · intro wx hwx
              clear hwx
              go_simp <;> exact rfl
            go_frame
            clear hS7
            have cj := (unhide J7).lj.cl.cell (show i * 6 + j < 36 by omega); have fj := (unhide J7).lj.cl.free (i * 6 + j)
            refine seq_do rfl (fun K hK => ?_)
            go_simp
            refine hK _ _ (fun h => by cases h) ?_
            clear hK K cj fj
            refine seq_end ?_
            have F := hide (show RfAt (w7.setCell ⟨w2.heap.size + 1 + 1 + 1, i * 6 + j, none⟩ (.int .i64 (divV (facR n f j i) p))) (w2.heap.size + 1) (facB n f j || facPB n f j || anyB (fun t => facRB n f j (j + 1 + t)) (t + 1)) ∧ FcJ w w2.heap.size ba o n cap j c at_ f (stF L2 (i * 6 + j) (divV (facR n f j i) p)) (w7.setCell ⟨w2.heap.size + 1 + 1 + 1, i * 6 + j, none⟩ (.int .i64 (divV (facR n f j i) p))) ∧ FI n f j (i + 1) (stF L2 (i * 6 + j) (divV (facR n f j i) p)) from by
              refine ⟨?_, (unhide J7).setL _ (quot_R _ _) (unhide S2) (unhide HBA), by rw [unhide E]; exact fi_step h6 (unhide HT2) (by omega) hin⟩
              have hm : RfAt _ (w2.heap.size + 1) (facB n f j || facPB n f j || anyB (fun t => facRB n f j (j + 1 + t)) t || rsB (f (i * n + j)) ((fac n f j).1 i) ((fac n f j).1 j) (fac n f j).2 j || divB (facR n f j i) p) := (unhide R7).kept (kept_set w7 (w2.heap.size + 1 + 1 + 1) (i * 6 + j) (.int .i64 (divV (facR n f j i) p))) (by omega)
              have e : (facB n f j || facPB n f j || anyB (fun t => facRB n f j (j + 1 + t)) (t + 1)) = (facB n f j || facPB n f j || anyB (fun t => facRB n f j (j + 1 + t)) t || rsB (f (i * n + j)) ((fac n f j).1 i) ((fac n f j).1 j) (fac n f j).2 j || divB (facR n f j i) p) := by
                show (_ || (anyB _ t || facRB n f j (j + 1 + t))) = _
                rw [ei, unhide E]; unfold facRB; simp only [Bool.or_assoc]
              rw [e]; exact hm)
            have F' := hide (show RfAt (w7.setCell ⟨w2.heap.size + 1 + 1 + 1, i * 6 + j, none⟩ (.int .i64 (divV (rsV (f (i * n + j)) ((fac n f j).1 i) ((fac n f j).1 j) (fac n f j).2 j) p))) (w2.heap.size + 1) (facB n f j || facPB n f j || anyB (fun t => facRB n f j (j + 1 + t)) (t + 1)) ∧ FcJ w w2.heap.size ba o n cap j c at_ f (stF L2 (i * 6 + j) (divV (facR n f j i) p)) (w7.setCell ⟨w2.heap.size + 1 + 1 + 1, i * 6 + j, none⟩ (.int .i64 (divV (rsV (f (i * n + j)) ((fac n f j).1 i) ((fac n f j).1 j) (fac n f j).2 j) p))) ∧ FI n f j (i + 1) (stF L2 (i * 6 + j) (divV (facR n f j i) p)) from unhide F)
            clear F
            generalize w7.setCell ⟨w2.heap.size + 1 + 1 + 1, i * 6 + j, none⟩ (.int .i64 (divV (rsV (f (i * n + j)) ((fac n f j).1 i) ((fac n f j).1 j) (fac n f j).2 j) p)) = w8 at *
            go_wp2_with fail
            go_roundw
            case rel =>
              refine ⟨t + 1, _, by subst ei; go_num, by omega, (unhide F').1, (unhide F').2.1, ?_⟩
              rw [← Nat.add_assoc, ei]; exact (unhide F').2.2
            case measure => simp [intOf] <;> omega
          · have hin2 : i = n := by omega
            subst hin2
            have cd := (unhide HJ2).lj.cd
            have HO := hide (show GrowR (wr.alloc (.cells #[.int .i64 p] 3)) (w2.heap.size + 1 + 1 + 1 + 1 + 1) at_ j c (facP i f) from (unhide HJ2).lj.dd.below (al_below _ _))
            go_wp2_with (at_builtin; refine wpList_append_own _ rfl _ _ 22 rfl (w2.heap.size + 1 + 1 + 1 + 1 + 1) 3 i0 (.int .i64 0) 1 8 Try.underlying22 hi0 hz0 hz1 hz2 rfl (by decide) (.slice at_ j c) j (rowL (facP i f) j) rfl (unhide HO) ⟨wr.heap.size, 0, none⟩ 1 1 [.int .i64 p] rfl rfl (one_cells wr _) (one_one _) (by unfold maxLen; omega) (by omega) (by have := (unhide HJ2).sz; rw [al_size]; omega) ?_)
            intro v' w6 hown hgr hnil
            rw [unhide E] at hown
            obtain ⟨ao', c', rfl, hg6⟩ := growR_next hown
            obtain ⟨q1, q2, q3, q4⟩ := (unhide HJ2).push rfl hgr hg6 (unhide S2) (unhide HBA)
            have J6 := hide q3; have R6 := hide (q4 _ (unhide HR2))
            have OK6 := hide (show facOK i f (j + 1) from fun t ht => by
              rcases Nat.lt_or_ge t j with h | h
              · exact unhide HOK t h
              · have : t = j := by omega
                subst this
                rw [← unhide E]; omega)
            clear hown hgr hnil hg6 q3 q4 cd cn
            go_wp2_with fail
            clear q1 q2
            generalize w6.setCell ⟨w2.heap.size + 1 + 1 + 1 + 1, 0, none⟩ (.slice ao' (j + 1) c') = w7 at *
            go_roundw
            case rel =>
              refine ⟨j + 1, c', ao', L2, by go_num, by omega, unhide OK6, ?_, unhide J6, fi_end (unhide HT2)⟩
              have e : t = i - (j + 1) := by omega
              have hm := unhide R6
              rw [e] at hm
              exact hm
            case measure => simp [intOf] <;> omega
    · have hjn2 : j = n := by omega
      subst hjn2
      rename World => wr
      obtain ⟨gd, rfl, hgd, ndd⟩ := (unhide HJ).lj.dd.nh (unhide H1)
      have ND := hide ndd; have HGD := hide (show gd < wr.heap.size from ndd.lt)
      clear hgd ndd
      have cnl : w2.heap.size < wr.heap.size := by have := (unhide HJ).sz; omega
      have VZ := hide (unhide HJ).sz
      go_wp2_with fail
      clear cn
      go_loopw [15] (fun is wx => ∃ (i co : Nat) (ao2 : Option Addr), is = .int .i64 i ∧ i ≤ j ∧ MbAt wx wr.heap.size (j : Int) (.slice ao2 (i * j) co) ∧ GrowR wx (wr.heap.size + 1) ao2 (i * j) co (fun p => L (p / j * 6 + p % j)) ∧ Below wr.heap.size wr wx ∧ wr.heap.size + 1 ≤ wx.heap.size)
        (fun is _ => j - (intOf is).toNat)
      case atStart =>
        refine ⟨0, 0, none, rfl, Nat.zero_le _, ?_, ?_, al_below _ _, by rw [al_size]; omega⟩
        · rw [Nat.zero_mul]; exact MbAt.new wr _ _
        · rw [Nat.zero_mul]; exact World.ownsRow_nil _ _ _ _
      case round =>
        obtain ⟨i, co, ao2, rfl, hi, hmt, hgr, hbl, hsz⟩ := hrel
        have cn : _ := (World.cell?_of_block (hbl.block w2.heap.size cnl)).trans (unhide HJ).lj.cn
        have MT := hide hmt; have GR := hide hgr; have BL := hide hbl; have SZ := hide hsz
        clear hmt hgr hbl hsz
        rename World => wx
        by_cases hij : i < j
        · have hi6 : (i : Int) < 6 := by omega
          have hj6 : (j : Int) ≤ 6 := by omega
          have hS : ClF wr.heap.size w2.heap.size (.slice ao2 (i * j) co) j wx.drew := ⟨(unhide MT).cell1, cn⟩
          have hij36 := idx_lt hij hij
          have hj36 := sq_le h6
          go_wp2_with fail
          clear cn
          refine region_by (S := ClF wr.heap.size w2.heap.size (.slice ao2 (i * j) co) j)
            [(0, false), (1, false), (2, false), (3, false), (4, false), (5, false), (6, true), (7, false), (8, true)] [8] (by kernel_rfl) (by kernel_rfl) ?_
          iterate 6
            refine seq_read (v := ?_) rfl (fun _ _ _ h => h) (by rfl) hS ?_ ?_
            rotate_left 1
            · intro wy hwx
              obtain ⟨q1, q2⟩ := hwx
              go_simp <;> exact rfl
            go_frame
          refine seq_do rfl (fun K hK => ?_)
          rw [if_pos (by rfl)]
          refine wp_append_own (P := Try.prog) _ (.tmp 71) (.tmp 75) 22 rfl (wr.heap.size + 1) 3 i0 (.int .i64 0) 1 8 Try.underlying22 hi0 hz0 hz1 hz2 rfl (by decide) (.slice ao2 (i * j) co) (i * j) (rowL (fun p => L (p / j * 6 + p % j)) (i * j)) rfl (show GrowR wx.drew _ _ _ _ _ from unhide GR) ⟨w2.heap.size + 1 + 1 + 1, i * 6, none⟩ j 6 (rowL (fun t => L (i * 6 + t)) j) rfl (rowL_len _ _) (rowL_cells (fun t ht => ?_)) (rowL_one _ _) (by unfold maxLen; omega) (by omega) (unhide SZ) ?_
          · have := (unhide HJ).lj.cl.cell (show i * 6 + t < 36 by omega)
            exact (World.cell?_of_block ((unhide BL).block (w2.heap.size + 1 + 1 + 1) (by have := unhide VZ; omega))).trans this
          intro v' w6 hown hgr hnil
          obtain ⟨ao', c', rfl, hg6⟩ := growR_more hown (fun t ht => by show L (i * 6 + t) = L ((i * j + t) / j * 6 + (i * j + t) % j); rw [idx_div ht, idx_mod ht]) (unhide H1)
          have k6 := grown_below (show GrowR wx.drew _ _ _ _ _ from unhide GR) hgr (unhide SZ)
          have M6 := hide ((show MbAt wx.drew _ _ _ from unhide MT).same (k6.block wr.heap.size (by omega)))
          have B6 := hide (show Below wr.heap.size wr w6 from (below_drew (unhide BL)).trans (Below.le k6 (by omega)))
          have S6 := hide (show wr.heap.size + 1 ≤ w6.heap.size from Nat.le_trans (unhide SZ) k6.size)
          have G6 := hide hg6
          have hS6 : ClF wr.heap.size w2.heap.size (.slice ao2 (i * j) co) j w6 := ⟨(unhide M6).cell1, (World.cell?_of_block (k6.block w2.heap.size (by omega))).trans hS.2⟩
          refine hK _ _ (fun _ => hS6) ?_
          clear hK K hS hown hgr hnil hg6 k6
          refine seq_read (v := ?_) rfl (fun _ _ _ h => h) (by rfl) hS6 ?_ ?_
          rotate_left 1
          · intro wy hwx
            clear hwx
            go_simp <;> exact rfl
          go_frame
          clear hS6
          refine seq_do rfl (fun K hK => ?_)
          have t1 := (unhide M6).cell1; have f1 := (unhide M6).free 1
          go_simp
          refine hK _ _ (fun h => by cases h) ?_
          clear hK K t1 f1
          refine seq_end ?_
          obtain ⟨w7, e7, m7, k7⟩ := (unhide M6).put1 (.slice ao' (i * j + j) c')
          rw [← e7]
          have F := hide (show MbAt w7 wr.heap.size (j : Int) (.slice ao' ((i + 1) * j) c') ∧ GrowR w7 (wr.heap.size + 1) ao' ((i + 1) * j) c' (fun p => L (p / j * 6 + p % j)) ∧ Below wr.heap.size wr w7 ∧ wr.heap.size + 1 ≤ w7.heap.size from by
            rw [Nat.add_mul, Nat.one_mul]
            exact ⟨m7, (unhide G6).kept k7 (by omega), below_of_kept (unhide B6) k7 (Nat.le_refl _) (unhide B6).size, Nat.le_trans (unhide S6) k7.size⟩)
          clear e7 m7 k7
          go_wp2_with fail
          go_roundw
          case rel => exact ⟨i + 1, c', ao', by go_num, by omega, (unhide F).1, (unhide F).2.1, (unhide F).2.2.1, (unhide F).2.2.2⟩
          case measure => simp [intOf] <;> omega
        · have hij2 : i = j := by omega
          subst hij2
          obtain ⟨r, rfl, hrb, hn⟩ := (unhide GR).nh (Nat.mul_le_mul (unhide H1) (unhide H1))
          have NR := hide hn; have HRB := hide hrb
          clear hn hrb
          have vz := unhide VZ; have s2 := unhide S2
          have keepc : Hid (∀ {a : Addr} {v : Value}, wr.cell? a = some v → a.block < wr.heap.size → wx.cell? a = some v) := by
            intro a v ha hl
            exact (World.cell?_of_block ((unhide BL).block a.block hl)).trans ha
          have t0 := (unhide MT).cell0; have t1 := (unhide MT).cell1
          have MR := hide ((unhide HJ).mr.same ((unhide BL).block (w.heap.size + 1) (by omega)))
          have d0 := (unhide MR).cell0; have d1 := (unhide MR).cell1; have f0 := (unhide MR).free 0; have f1 := (unhide MR).free 1
          have cd := unhide keepc (unhide HJ).lj.cd (by show w2.heap.size + 1 + 1 + 1 + 1 < _; omega)
          have cr := unhide keepc (unhide HJ).lj.cr (by show w2.heap.size + 1 + 1 < _; omega)
          have cb := unhide keepc (unhide HR).cell0 (by show w2.heap.size + 1 < _; omega)
          go_wp2_with fail
          go_region
          obtain ⟨w8, e8, m8, k8⟩ := (unhide MR).put (i : Int) (.slice (some ⟨r, 0, none⟩) (i * i) co)
          rw [← e8]
          have p0 : w8.drew.cell? ⟨w.heap.size + 1, 0, none⟩ = some (.int .i64 (i : Int)) := m8.cell0
          have p1 : w8.drew.cell? ⟨w.heap.size + 1, 1, none⟩ = some (.slice (some ⟨r, 0, none⟩) (i * i) co) := m8.cell1
          have F := hide (show Nh w8.drew r (i * i) co (fun p => L (p / i * 6 + p % i)) ∧ Nh w8.drew gd i c (facP i f) ∧ Below w.heap.size w w8.drew from by
            have hgd0 := (unhide ND)
            have hgr := (unhide HJ).lj.dd
            refine ⟨Nh.kept (w' := w8) (unhide NR) k8 (by have := unhide HRB; omega), Nh.kept (w' := w8) ((unhide ND).same ((unhide BL).block gd (unhide HGD))) k8 (by have := (World.ownsRow.lt hgr gd rfl).1; omega), below_drew (below_of_kept ((unhide HJ).bel.trans (Below.le (unhide BL) (by omega))) k8 (by omega) (by have := (unhide BL).size; omega))⟩)
          clear e8 m8 k8 t0 t1 d0 d1 f0 f1 cd cr cb cn
          generalize w8.drew = w9 at *
          go_wp2_with fail
          refine bodyPost_ret (v := .tuple #[.agg #[.int .i64 (i : Int), .slice (some ⟨r, 0, none⟩) (i * i) co], .slice (some ⟨gd, 0, none⟩) i c, .bool (facB i f i), .int .i64 0]) (by simp [results, Try.results22, go_sem, p0, p1]) rfl
            (Or.inl ⟨unhide HOK, r, co, gd, c, _, rfl, (unhide F).1, fun t => (unhide HJ).rl _, fl_M (unhide HT), (unhide F).2.1, (unhide F).2.2⟩)

end Go.Proofs.Ytnfejfdekedmhaa
