/- Contracts: Solve of the reference. -/
import Derived.Test.YtnfejfdekedmhaaRefFac2
import Derived.Test.YtnfejfdekedmhaaMatSolS
namespace Go.Proofs.Ytnfejfdekedmhaa
open Go.RowKit

/-- Four cells that a step reads. -/
def ClU (b i k vl r s : Nat) (x y : Int) (v : Value) (z : Int) (w : World) : Prop := w.cell? ⟨b, i, none⟩ = some (.int .i64 x) ∧ w.cell? ⟨b, k, none⟩ = some (.int .i64 y) ∧ w.cell? ⟨vl, 1, none⟩ = some v ∧ w.cell? ⟨r, s, none⟩ = some (.int .i64 z)
theorem ClU.kept {z0 b i k vl r s : Nat} {x y z : Int} {v : Value} {w w' : World} (h : ClU b i k vl r s x y v z w) (q : Kept z0 w w') (h1 : b ≠ z0) (h2 : vl ≠ z0) (h3 : r ≠ z0) : ClU b i k vl r s x y v z w' :=
  ⟨at_kept h.1 q h1, at_kept h.2.1 q h1, at_kept h.2.2.1 q h2, at_kept h.2.2.2 q h3⟩
def ClV (b c i : Nat) (x y : Int) (w : World) : Prop := w.cell? ⟨b, i, none⟩ = some (.int .i64 x) ∧ w.cell? ⟨c, i, none⟩ = some (.int .i64 y)
/-- What Solve reads. -/
structure SvJ (VL r c gd cu bb ob n : Nat) (g dd v : Nat → Int) (u : World) : Prop where
  cl : MbAt u VL (n : Int) (.slice (some ⟨r, 0, none⟩) (n * n) c)
  cg : Nh u r (n * n) c g
  cd : Nh u gd n cu dd
  cv : ∀ t, t < n → u.cell? ⟨bb, ob + t, none⟩ = some (.int .i64 (v t))
theorem SvJ.kp2 {y z VL r c gd cu bb ob n : Nat} {g dd v : Nat → Int} {u u' : World} (h : SvJ VL r c gd cu bb ob n g dd v u) (k : Kp2 y z u u') (h1 : VL ≠ y ∧ VL ≠ z) (h2 : r ≠ y ∧ r ≠ z) (h3 : gd ≠ y ∧ gd ≠ z) (h4 : bb ≠ y ∧ bb ≠ z) : SvJ VL r c gd cu bb ob n g dd v u' :=
  ⟨h.cl.kp2 k h1.1 h1.2, h.cg.kp2 k h2.1 h2.2, h.cd.kp2 k h3.1 h3.2, fun t ht => at_kp2 (h.cv t ht) k h4.1 h4.2⟩
theorem SvJ.below {VL r c gd cu bb ob n : Nat} {g dd v : Nat → Int} {u u' : World} (h : SvJ VL r c gd cu bb ob n g dd v u) (k : Below u.heap.size u u') : SvJ VL r c gd cu bb ob n g dd v u' :=
  ⟨h.cl.below k, h.cg.below k, h.cd.below k, fun t ht => at_below (h.cv t ht) k⟩
theorem dvF_all {y d : Nat → Int} : ∀ {i t : Nat}, t < i → dvF y d i t = divV (y t) (d t)
  | 0, _, h => absurd h (by omega)
  | i + 1, t, h => by
    show stF (dvF y d i) i (divV (y i) (d i)) t = _
    by_cases e : t = i
    · subst e; rw [stF_same]
    · rw [stF_other _ _ e]; exact dvF_all (by omega)
theorem dvB_congr {y d y' d' : Nat → Int} : ∀ {n : Nat}, (∀ t, t < n → y t = y' t) → (∀ t, t < n → d t = d' t) → dvB y d n = dvB y' d' n
  | 0, _, _ => rfl
  | n + 1, h1, h2 => by
    show (dvB y d n || divB (y n) (d n)) = (dvB y' d' n || divB (y' n) (d' n))
    rw [dvB_congr (fun t ht => h1 t (by omega)) (fun t ht => h2 t (by omega)), h1 n (by omega), h2 n (by omega)]
theorem dnF_keeps (n : Nat) (f y : Nat → Int) {i t : Nat} (h : t ≠ i) : dnF n f y (i + 1) t = dnF n f y i t := stF_other _ _ h
theorem dnF_new (n : Nat) (f y : Nat → Int) (i : Nat) : dnF n f y (i + 1) i = sbV (y i) (rowF n f i) (dnF n f y i) i := stF_same _ _ _

set_option maxRecDepth 100000 in
set_option maxHeartbeats 16000000 in
theorem refSolve_good (n : Nat) (ao vo : Option Addr) (cap cv : Nat) (f v : Nat → Int) (w : World) (h1 : 1 ≤ n) (h6 : n ≤ 6) (hf : ∀ i, R64 (f i)) (hv : ∀ i, R64 (v i)) (hr : Rds w ao (n * n) f) (hrv : Rds w vo n v) :
    Calls Try.prog 24 #[.agg #[.int .i64 (n : Int), .slice ao (n * n) cap], .slice vo n cv] w fun e w' =>
      (facOK n f n ∧ ∃ (u : Nat) (g X : Nat → Int), IsM n f n g ∧ e = .returned (.tuple #[.slice (some ⟨u, 0, none⟩) n n, .bool (facB n f n || dnB n g v n || dvB (dnF n g v n) (fac n f n).2 n || upB n g (dvF (dnF n g v n) (fac n f n).2 n) n), .int .i64 0]) ∧ Nh w' u n n X ∧ (∀ t, t < n → X t = upF n g (dvF (dnF n g v n) (fac n f n).2 n) n t) ∧ Below w.heap.size w w') ∨
      (¬ facOK n f n ∧ e = .returned (.tuple #[.slice none 0 0, .bool false, .int .i64 9]) ∧ Below w.heap.size w w') := by
  obtain ⟨bb, ob, rfl, hcv⟩ := hrv h1
  have G := hide (goodM_nat h1 h6)
  have HBB := hide (show bb < w.heap.size from World.block_lt_of_cell? w ⟨bb, ob + 0, none⟩ (hcv 0 h1))
  obtain ⟨q, hq⟩ : ∃ q, n * n = q := ⟨_, rfl⟩
  have hq36 : q ≤ 36 := by rw [← hq]; exact sq_le h6
  have HQ := hide hq
  obtain ⟨w1, e1, m1, k1, s1⟩ := mb_alloc w (n : Int) (.slice ao (n * n) cap)
  have c0 := m1.cell0; have c1 := m1.cell1
  have tn : ((n : Int) != (n : Int)) = false := by simp
  have hmk := makeFull n (by omega)
  have E1 := hide e1; have M1 := hide m1; have K1 := hide k1; have HF := hide hf; have HV := hide hv; have HCV := hide hcv; have HRD := hide hr; have H1 := hide h1
  clear e1 m1 k1 s1 hcv hrv hf hv hr hq
  go_enter Try.func24, Try.ntmps24
  go_wp2_with fail
  rw [← unhide E1]
  go_wp2_with fail
  refine (goodMat_any (n : Int) _ (n * n) cap _).mono ?_
  rintro e w2 ⟨rfl, k2⟩
  rw [unhide G]
  have M2 := hide ((unhide M1).below k2); have K2 := hide ((unhide K1).trans (Below.le k2 (unhide K1).size))
  clear k2 c0 c1
  have c0 := (unhide M2).cell0; have c1 := (unhide M2).cell1
  go_wp2_with fail
  refine (refFactor_good n ao cap f _ (unhide H1) h6 (unhide HF) ((unhide HRD).below (unhide K2))).mono ?_
  rintro e w3 (⟨ok, r, c, gd, cu, g, rfl, ng, rg, ig, nd, k3⟩ | ⟨nok, rfl, k3⟩)
  · have OK := hide ok; have RG := hide rg; have IG := hide ig
    have M3 := (unhide M2).below k3; have K3 := (unhide K2).trans (Below.le k3 (unhide K2).size)
    clear c0 c1
    have c0 := M3.cell0; have cl := M3.lt
    obtain ⟨VL, eVL⟩ : ∃ VL, w3.heap.size = VL := ⟨_, rfl⟩
    obtain ⟨w5, e5⟩ : ∃ w5, w5 = ((w3.alloc (.cells #[.int .i64 (n : Int), .slice (some ⟨r, 0, none⟩) (n * n) c] 24)).alloc (.cells #[.bool (facB n f n)] 48)).alloc (.cells (madeCells #[.int .i64 0] n) 3) := ⟨_, rfl⟩
    have F5 := hide (show RfAt w5 (VL + 1) (facB n f n) ∧ SvJ VL r c gd cu bb ob n g (facP n f) v w5 ∧ Nh w5 (VL + 1 + 1) n n (fun _ => 0) ∧ Below w.heap.size w w5 ∧ w5.heap.size = VL + 1 + 1 + 1 ∧ r < VL ∧ gd < VL ∧ w.heap.size ≤ VL from by
      have sA := al_size w3 (.cells #[.int .i64 (n : Int), .slice (some ⟨r, 0, none⟩) (n * n) c] 24)
      have sB := al_size (w3.alloc (.cells #[.int .i64 (n : Int), .slice (some ⟨r, 0, none⟩) (n * n) c] 24)) (.cells #[.bool (facB n f n)] 48)
      have kk : Below w3.heap.size w3 w5 := by rw [e5]; exact (((Below.refl _ _).alloc (Nat.le_refl _) _).alloc (by omega) _).alloc (by omega) _
      have k5 := K3.trans (Below.le kk K3.size)
      have hM := (MbAt.new w3 (n : Int) (.slice (some ⟨r, 0, none⟩) (n * n) c)).below (al_below _ (.cells #[.bool (facB n f n)] 48))
      have hR := BlAt.new 48 (w3.alloc (.cells #[.int .i64 (n : Int), .slice (some ⟨r, 0, none⟩) (n * n) c] 24)) (facB n f n)
      rw [sA] at hR
      have hY := Nh.made ((w3.alloc (.cells #[.int .i64 (n : Int), .slice (some ⟨r, 0, none⟩) (n * n) c] 24)).alloc (.cells #[.bool (facB n f n)] 48)) n (by unfold maxLen; omega)
      rw [sB, sA] at hY
      rw [eVL] at hM hR hY
      refine ⟨?_, ⟨?_, ng.below kk, nd.below kk, fun t ht => at_below (unhide HCV t ht) k5⟩, ?_, k5, ?_, by rw [← eVL]; exact ng.lt, by rw [← eVL]; exact nd.lt, by rw [← eVL]; exact K3.size⟩
      · rw [e5]; exact hR.below (al_below _ _)
      · rw [e5]; exact hM.below (al_below _ _)
      · rw [e5]; exact hY
      · rw [e5, al_size, sB, sA, eVL])
    have E5 := hide e5; have EVL := hide eVL
    clear e5 ok rg ig ng nd k3 M3 K3 eVL
    go_wp2_with fail
    rw [← unhide E5]
    have A5 := hide (unhide F5).2.2.2.2
    clear c0 cl tn
    have EY : Hid (Value.slice (some ⟨w3.heap.size + 1 + 1, 0, none⟩) n n = Value.slice (some ⟨VL + 1 + 1, 0, none⟩) n n) := by show _ = _; rw [unhide EVL]
    rw [unhide EVL]
    clear EY
    go_loopw [14, 15] (fun is _ wr => ∃ (i : Nat) (X : Nat → Int), is = .int .i64 i ∧ i ≤ n ∧ RfAt wr (VL + 1) (facB n f n || dnB n g v i) ∧ Nh wr (VL + 1 + 1) n n X ∧ (∀ t, R64 (X t)) ∧ (∀ t, t < i → X t = dnF n g v i t) ∧ Kp2 (VL + 1) (VL + 1 + 1) w5 wr)
      (fun is _ _ => n - (intOf is).toNat)
    case atStart =>
      refine ⟨0, _, rfl, Nat.zero_le _, ?_, (unhide F5).2.2.1, fun _ => R64_nought, fun _ h => absurd h (by omega), Kp2.refl _ _ _⟩
      show RfAt _ _ (_ || false)
      rw [Bool.or_false]; exact (unhide F5).1
    case round =>
      obtain ⟨i, X, rfl, hi, hR, hX, hRX, hT, hK⟩ := hrel
      have HR0 := hide hR; have HX0 := hide hX; have HRX := hide hRX; have HT := hide hT; have HK := hide hK
      clear hR hX hRX hT hK
      rename World => wr
      have HJ0 := hide ((unhide F5).2.1.kp2 (unhide HK) (by have := unhide A5; omega) (by have := unhide A5; omega) (by have := unhide A5; omega) (by have := unhide A5; have := unhide HBB; omega))
      by_cases hin : i < n
      · have cb := (unhide HJ0).cv i hin
        have cy := (unhide HX0).cell hin; have fy := (unhide HX0).free i
        go_wp2_with fail
        clear cb cy fy
        go_loopw [15] (fun ks wx => ∃ (k : Nat) (X : Nat → Int), ks = .int .i64 k ∧ k ≤ i ∧ RfAt wx (VL + 1) (facB n f n || dnB n g v i || sbB (v i) (rowF n g i) (dnF n g v i) k) ∧ Nh wx (VL + 1 + 1) n n X ∧ (∀ t, R64 (X t)) ∧ (∀ t, t < i → X t = dnF n g v i t) ∧ X i = sbV (v i) (rowF n g i) (dnF n g v i) k ∧ Kp2 (VL + 1) (VL + 1 + 1) w5 wx)
          (fun ks _ => i - (intOf ks).toNat)
        case atStart =>
          refine ⟨0, stF X i (v i), rfl, Nat.zero_le _, ?_, (unhide HX0).set i _, stF_R (unhide HRX) (unhide HV i), fun t ht => ?_, stF_same _ _ _, (unhide HK).trans (Kp2.of_kept (kept_set wr (VL + 1 + 1) i _) (Or.inr (Or.inl rfl)))⟩
          · show RfAt _ _ (_ || false)
            rw [Bool.or_false]; exact (unhide HR0).kept (kept_set wr (VL + 1 + 1) i _) (by omega)
          · rw [stF_other _ _ (by omega)]; exact unhide HT t ht
        case round =>
          obtain ⟨k, X, rfl, hk, hR, hX, hRX, hT, hXi, hK⟩ := hrel
          have HR := hide hR; have HX := hide hX; have RX := hide hRX; have HT2 := hide hT; have HXI := hide hXi; have HK2 := hide hK
          clear hR hX hRX hT hXi hK
          rename World => wr
          by_cases hki : k < i
          · have HJ := hide ((unhide F5).2.1.kp2 (unhide HK2) (by have := unhide A5; omega) (by have := unhide A5; omega) (by have := unhide A5; omega) (by have := unhide A5; have := unhide HBB; omega))
            have HNE := hide (show VL + 1 + 1 ≠ VL + 1 ∧ VL ≠ VL + 1 ∧ r ≠ VL + 1 ∧ True from ⟨by omega, by omega, by have := unhide A5; omega, trivial⟩)
            have hkn : k < n := by omega
            have hsq := idx_lt hin hkn
            rw [unhide HQ] at hsq
            have wp := wrap_sq h6 (show i ≤ 6 by omega)
            obtain ⟨p, ep⟩ : ∃ p, i * n = p := ⟨_, rfl⟩
            obtain ⟨s, es⟩ : ∃ s, p + k = s := ⟨_, rfl⟩
            rw [ep] at wp hsq
            rw [es] at hsq
            have ws : IntKind.i64.wrap ((p : Int) + (k : Int)) = (s : Int) := by rw [IntKind.wrap_i64]; omega
            have EG := hide (show g s = rowF n g i k by show g s = g (i * n + k); rw [ep, es])
            have EK := hide (show X k = dnF n g v i k from unhide HT2 k hki)
            clear ep es
            have hS : ClU (VL + 1 + 1) i k VL r s (X i) (X k) (.slice (some ⟨r, 0, none⟩) q c) (g s) wr.drew := ⟨(unhide HX).cell hin, (unhide HX).cell hkn, by have := (unhide HJ).cl.cell1; rw [unhide HQ] at this; exact this, by have := (unhide HJ).cg.cell (i := s) (by rw [unhide HQ]; exact hsq); exact this⟩
            go_wp2_with fail
            refine region_by (S := ClU (VL + 1 + 1) i k VL r s (X i) (X k) (.slice (some ⟨r, 0, none⟩) q c) (g s))
              [(0, false), (1, false), (2, false), (3, false), (4, false), (5, false), (6, false), (7, false), (8, false), (9, false), (10, false), (11, false), (12, false), (13, false), (14, false), (15, false), (16, false), (17, false), (18, false), (19, false), (20, false), (21, true), (22, true), (23, false), (24, true)] [24] (by kernel_rfl) (by kernel_rfl) ?_
            iterate 21
              refine seq_read (v := ?_) rfl (fun _ _ _ h => h) (by rfl) hS ?_ ?_
              rotate_left 1
              · intro wx hwx
                obtain ⟨q1, q2, q3, q4⟩ := hwx
                go_simp <;> exact rfl
              go_frame
            refine seq_do rfl (fun K hK => ?_)
            go_simp
            refine (rfMul_ok (VL + 1) _ _ _ _ (unhide RG _) (unhide RX k) (show RfAt wr.drew (VL + 1) _ from unhide HR)).mono ?_
            rintro e w7 ⟨rfl, h7, k7⟩
            have NE := unhide HNE
            have hS7 := ClU.kept (w := wr.drew) hS k7 NE.1 NE.2.1 NE.2.2.1
            refine hK _ _ (fun _ => hS7) ?_
            have R7 := hide h7; have K7 := hide ((kept_drew (z := VL + 1) wr).trans k7 (Or.inl rfl))
            clear hK K hS h7 k7
            refine seq_do rfl (fun K hK => ?_)
            go_simp
            refine (rfSub_ok (VL + 1) _ _ _ _ (unhide RX i) (clampZ_R _) (unhide R7)).mono ?_
            rintro e w8 ⟨rfl, h8, k8⟩
            have hS8 := hS7.kept k8 NE.1 NE.2.1 NE.2.2.1
            refine hK _ _ (fun _ => hS8) ?_
            have R8 := hide h8; have K8 := hide ((unhide K7).trans k8 (Or.inl rfl))
            have X8 := hide ((unhide HX).kept (unhide K8) NE.1)
            clear hK K hS7 h8 k8
            refine seq_read (v := ?_) rfl (fun _ _ _ h => h) (by rfl) hS8 ?_ ?_
            rotate_left 1
            · intro wx hwx
              clear hwx
              go_simp <;> exact rfl
            go_frame
            have c8 := hS8.1
            have f8 := (unhide X8).free i
            refine seq_do rfl (fun K hK => ?_)
            go_simp
            refine hK _ _ (fun h => by cases h) ?_
            clear hK K hS8 c8 f8
            refine seq_end ?_
            have F := hide (show RfAt (w8.setCell ⟨(VL + 1 + 1), i, none⟩ (.int .i64 (clampZ (X i - clampZ (mulQ (g s) (X k)))))) (VL + 1) _ ∧ Nh (w8.setCell ⟨(VL + 1 + 1), i, none⟩ (.int .i64 (clampZ (X i - clampZ (mulQ (g s) (X k)))))) (VL + 1 + 1) n n (stF X i (clampZ (X i - clampZ (mulQ (g s) (X k))))) ∧ Kp2 (VL + 1) (VL + 1 + 1) wr (w8.setCell ⟨(VL + 1 + 1), i, none⟩ (.int .i64 (clampZ (X i - clampZ (mulQ (g s) (X k)))))) from
              ⟨(unhide R8).kept (kept_set w8 (VL + 1 + 1) i _) NE.1.symm, (unhide X8).set i _, (Kp2.of_kept (unhide K8) (Or.inl rfl)).trans (Kp2.of_kept (kept_set w8 (VL + 1 + 1) i _) (Or.inr (Or.inl rfl)))⟩)
            generalize w8.setCell ⟨(VL + 1 + 1), i, none⟩ (.int .i64 (clampZ (X i - clampZ (mulQ (g s) (X k))))) = w9 at *
            go_wp2_with fail
            go_roundw
            case rel =>
              refine ⟨k + 1, _, by go_num, by omega, ?_, (unhide F).2.1, stF_R (unhide RX) (clampZ_R _), fun t ht => by rw [stF_other _ _ (by omega)]; exact unhide HT2 t ht, ?_, (unhide HK2).trans (unhide F).2.2⟩
              · have hm := (unhide F).1
                rw [unhide EG, unhide EK, unhide HXI] at hm
                simp only [Bool.or_assoc] at hm
                show RfAt _ (VL + 1) (_ || (sbB (v i) (rowF n g i) (dnF n g v i) k || _ || _))
                simp only [Bool.or_assoc]
                exact hm
              · rw [stF_same, unhide EG, unhide EK, unhide HXI]; rfl
            case measure => simp [intOf] <;> omega
          · have hki2 : k = i := by omega
            subst hki2
            go_wp2_with fail
            go_roundw
            case rel =>
              refine ⟨k + 1, X, by go_num, by omega, ?_, unhide HX, unhide RX, fun t ht => ?_, unhide HK2⟩
              · have hm := unhide HR
                rw [Bool.or_assoc] at hm
                exact hm
              · by_cases e : t = k
                · subst e; rw [dnF_new]; exact unhide HXI
                · rw [dnF_keeps n g v e]; exact unhide HT2 t (by omega)
            case measure => simp [intOf] <;> omega
      · have hin2 : i = n := by omega
        subst hin2
        have kA := al_below wr (.cells (madeCells #[.int .i64 0] i) 3)
        have sA := al_size wr (.cells (madeCells #[.int .i64 0] i) 3)
        have F6 := hide (show RfAt (wr.alloc (.cells (madeCells #[.int .i64 0] i) 3)) (VL + 1) (facB i f i || dnB i g v i) ∧ SvJ VL r c gd cu bb ob i g (facP i f) v (wr.alloc (.cells (madeCells #[.int .i64 0] i) 3)) ∧ Nh (wr.alloc (.cells (madeCells #[.int .i64 0] i) 3)) (VL + 1 + 1) i i X ∧ Nh (wr.alloc (.cells (madeCells #[.int .i64 0] i) 3)) wr.heap.size i i (fun _ => 0) ∧ Below w.heap.size w (wr.alloc (.cells (madeCells #[.int .i64 0] i) 3)) ∧ VL + 1 + 1 < wr.heap.size from
          ⟨(unhide HR0).below kA, (unhide HJ0).below kA, (unhide HX0).below kA, Nh.made wr i (by unfold maxLen; omega), (Kp2.below (unhide F5).2.2.2.1 (unhide HK) (by have := unhide A5; omega) (by have := unhide A5; omega) (by have := unhide A5; omega)).alloc (by have := (unhide HK).size; have := unhide A5; omega) _, (unhide HX0).lt⟩)
        clear kA sA
        go_wp2_with fail
        generalize eZ : wr.heap.size = bz at *
        generalize wr.alloc (.cells (madeCells #[.int .i64 0] i) 3) = w6 at *
        clear eZ
        go_loopw [17] (fun js wx => ∃ (j : Nat) (Z : Nat → Int), js = .int .i64 j ∧ j ≤ i ∧ RfAt wx (VL + 1) (facB i f i || dnB i g v i || dvB (dnF i g v i) (fac i f i).2 j) ∧ Nh wx bz i i Z ∧ (∀ t, R64 (Z t)) ∧ (∀ t, t < j → Z t = divV (dnF i g v i t) ((fac i f i).2 t)) ∧ Kp2 (VL + 1) bz w6 wx)
          (fun js _ => i - (intOf js).toNat)
        case atStart =>
          refine ⟨0, _, rfl, Nat.zero_le _, ?_, (unhide F6).2.2.2.1, fun _ => R64_nought, fun _ h => absurd h (by omega), Kp2.refl _ _ _⟩
          show RfAt _ _ (_ || false)
          rw [Bool.or_false]; exact (unhide F6).1
        case round =>
          obtain ⟨j, Z, rfl, hj, hR, hZ, hRZ, hTZ, hK⟩ := hrel
          have HRZ := hide hR; have HZ := hide hZ; have RZ := hide hRZ; have HTZ := hide hTZ; have HKZ := hide hK
          clear hR hZ hRZ hTZ hK
          rename World => wz
          have A6 := hide (unhide F6).2.2.2.2.2
          have HJZ := hide ((unhide F6).2.1.kp2 (unhide HKZ) (by have := unhide A6; omega) (by have := unhide A5; have := unhide A6; omega) (by have := unhide A5; have := unhide A6; omega) (by have := unhide A5; have := unhide A6; have := unhide HBB; omega))
          have HYZ := hide ((unhide F6).2.2.1.kp2 (unhide HKZ) (by omega) (by have := unhide A6; omega))
          by_cases hjn : j < i
          · have hS : ClV (VL + 1 + 1) gd j (X j) (facP i f j) wz.drew := ⟨(unhide HYZ).cell hjn, (unhide HJZ).cd.cell hjn⟩
            go_wp2_with fail
            refine region_by (S := ClV (VL + 1 + 1) gd j (X j) (facP i f j))
              [(0, false), (1, false), (2, false), (3, false), (4, false), (5, false), (6, false), (7, false), (8, false), (9, false), (10, false), (11, true), (12, false), (13, true)] [13] (by kernel_rfl) (by kernel_rfl) ?_
            iterate 11
              refine seq_read (v := ?_) rfl (fun _ _ _ h => h) (by rfl) hS ?_ ?_
              rotate_left 1
              · intro wx hwx
                obtain ⟨q1, q2⟩ := hwx
                go_simp <;> exact rfl
              go_frame
            refine seq_do rfl (fun K hK => ?_)
            go_simp
            refine (rfDiv_ok (VL + 1) _ _ _ _ (unhide HRX j) (facP_R (unhide HF) j) (show RfAt wz.drew (VL + 1) _ from unhide HRZ)).mono ?_
            rintro e w7 ⟨rfl, h7, k7⟩
            have k7' := (kept_drew (z := VL + 1) wz).trans k7 (Or.inl rfl)
            have hS7 : ClV (VL + 1 + 1) gd j (X j) (facP i f j) w7 := ⟨((unhide HYZ).kept k7' (by omega)).cell hjn, ((unhide HJZ).cd.kept k7' (by have := unhide A5; omega)).cell hjn⟩
            refine hK _ _ (fun _ => hS7) ?_
            have R7 := hide h7; have Z7 := hide ((unhide HZ).kept k7' (by have := unhide A6; omega)); have K7 := hide k7'
            clear hK K hS h7 k7 k7'
            refine seq_read (v := ?_) rfl (fun _ _ _ h => h) (by rfl) hS7 ?_ ?_
            rotate_left 1
            · intro wx hwx
              clear hwx
              go_simp <;> exact rfl
            go_frame
            clear hS7
            have c8 := (unhide Z7).cell hjn
            have f8 := (unhide Z7).free j
            refine seq_do rfl (fun K hK => ?_)
            go_simp
            refine hK _ _ (fun h => by cases h) ?_
            clear hK K c8 f8
            refine seq_end ?_
            have EJ := hide (show X j = dnF i g v i j from unhide HT j hjn)
            have EDD := hide (show facP i f j = (fac i f i).2 j from (facD_of i f hjn).symm)
            have F := hide (show RfAt (w7.setCell ⟨bz, j, none⟩ (.int .i64 (divV (X j) (facP i f j)))) (VL + 1) (facB i f i || dnB i g v i || dvB (dnF i g v i) (fac i f i).2 (j + 1)) ∧ Nh (w7.setCell ⟨bz, j, none⟩ (.int .i64 (divV (X j) (facP i f j)))) bz i i (stF Z j (divV (X j) (facP i f j))) ∧ Kp2 (VL + 1) bz w6 (w7.setCell ⟨bz, j, none⟩ (.int .i64 (divV (X j) (facP i f j)))) from by
              refine ⟨?_, (unhide Z7).set j _, ((unhide HKZ).trans (Kp2.of_kept (unhide K7) (Or.inl rfl))).trans (Kp2.of_kept (kept_set w7 bz j _) (Or.inr (Or.inl rfl)))⟩
              have hm := (unhide R7).kept (kept_set w7 bz j (.int .i64 (divV (X j) (facP i f j)))) (by have := unhide A6; omega)
              rw [unhide EJ, unhide EDD, Bool.or_assoc] at hm
              rw [unhide EJ, unhide EDD]
              exact hm)
            generalize w7.setCell ⟨bz, j, none⟩ (.int .i64 (divV (X j) (facP i f j))) = w8 at *
            go_wp2_with fail
            go_roundw
            case rel =>
              refine ⟨j + 1, _, by go_num, by omega, (unhide F).1, (unhide F).2.1, stF_R (unhide RZ) (quot_R _ _), fun t ht => ?_, (unhide F).2.2⟩
              by_cases e : t = j
              · subst e; rw [stF_same, unhide EJ, unhide EDD]
              · rw [stF_other _ _ e]; exact unhide HTZ t (by omega)
            case measure => simp [intOf] <;> omega
          · have hjn2 : j = i := by omega
            subst hjn2
            have kA := al_below wz (.cells (madeCells #[.int .i64 0] j) 3)
            obtain ⟨zz, ezz⟩ : ∃ zz, zz = dvF (dnF j g v j) (fac j f j).2 j := ⟨_, rfl⟩
            have RZZ := hide (show ∀ t, R64 (zz t) from by rw [ezz]; exact dvF_R (dnF_R (unhide HV) j) j)
            have HZZ := hide (show ∀ t, t < j → Z t = zz t from fun t ht => by rw [ezz, dvF_all ht]; exact unhide HTZ t ht)
            have EZZ := hide ezz
            have F7 := hide (show RfAt (wz.alloc (.cells (madeCells #[.int .i64 0] j) 3)) (VL + 1) (facB j f j || dnB j g v j || dvB (dnF j g v j) (fac j f j).2 j) ∧ SvJ VL r c gd cu bb ob j g (facP j f) v (wz.alloc (.cells (madeCells #[.int .i64 0] j) 3)) ∧ Nh (wz.alloc (.cells (madeCells #[.int .i64 0] j) 3)) bz j j Z ∧ Nh (wz.alloc (.cells (madeCells #[.int .i64 0] j) 3)) wz.heap.size j j (fun _ => 0) ∧ Below w.heap.size w (wz.alloc (.cells (madeCells #[.int .i64 0] j) 3)) ∧ bz < wz.heap.size from
              ⟨(unhide HRZ).below kA, (unhide HJZ).below kA, (unhide HZ).below kA, Nh.made wz j (by unfold maxLen; omega), (Kp2.below (unhide F6).2.2.2.2.1 (unhide HKZ) (by have := unhide A5; omega) (by have := unhide A5; have := unhide A6; omega) (unhide F6).2.2.2.2.1.size).alloc (by have := (unhide HKZ).size; have := (unhide F6).2.2.2.2.1.size; omega) _, (unhide HZ).lt⟩)
            clear kA ezz
            go_wp2_with fail
            generalize eX : wz.heap.size = bx at *
            generalize wz.alloc (.cells (madeCells #[.int .i64 0] j) 3) = wq at *
            clear eX
            have A7 := hide (unhide F7).2.2.2.2.2
            go_loopw [19, 20] (fun is _ wx => ∃ (m : Nat) (X : Nat → Int), is = .int .i64 ((j : Int) - 1 - m) ∧ m ≤ j ∧ RfAt wx (VL + 1) (facB j f j || dnB j g v j || dvB (dnF j g v j) (fac j f j).2 j || upB j g zz m) ∧ Nh wx bx j j X ∧ (∀ t, R64 (X t)) ∧ (∀ t, j ≤ t + m → t < j → X t = upF j g zz m t) ∧ Kp2 (VL + 1) bx wq wx)
              (fun is _ _ => (intOf is + 1).toNat)
            case atStart =>
              refine ⟨0, _, by go_num, Nat.zero_le _, ?_, (unhide F7).2.2.2.1, fun _ => R64_nought, fun t h1 h2 => absurd h1 (by omega), Kp2.refl _ _ _⟩
              show RfAt _ _ (_ || false)
              rw [Bool.or_false]; exact (unhide F7).1
            case round =>
              obtain ⟨m, X, rfl, hm, hR, hX, hRX, hT, hK⟩ := hrel
              have HR0 := hide hR; have HX0 := hide hX; have HRX := hide hRX; have HT := hide hT; have HK := hide hK
              clear hR hX hRX hT hK
              rename World => wr
              by_cases hmn : m < j
              · obtain ⟨i, ei⟩ : ∃ i, j - 1 - m = i := ⟨_, rfl⟩
                have hin : i < j := by omega
                rw [show ((j : Int) - 1 - m) = (i : Int) by omega]
                have cz := ((unhide F7).2.2.1.kp2 (unhide HK) (by have := unhide A6; omega) (by have := unhide A7; omega)).cell hin
                have cy := (unhide HX0).cell hin; have fy := (unhide HX0).free i
                go_wp2_with fail
                clear cz cy fy
                go_loopw [20] (fun ks wx => ∃ (t : Nat) (X : Nat → Int), ks = .int .i64 ((i + 1 + t : Nat) : Int) ∧ t ≤ m ∧ RfAt wx (VL + 1) (facB j f j || dnB j g v j || dvB (dnF j g v j) (fac j f j).2 j || upB j g zz m || sbB (zz i) (fun t => g ((i + 1 + t) * j + i)) (fun t => upF j g zz m (i + 1 + t)) t) ∧ Nh wx bx j j X ∧ (∀ t, R64 (X t)) ∧ (∀ t, j ≤ t + m → t < j → X t = upF j g zz m t) ∧ X i = sbV (zz i) (fun t => g ((i + 1 + t) * j + i)) (fun t => upF j g zz m (i + 1 + t)) t ∧ Kp2 (VL + 1) bx wq wx)
                  (fun ks _ => j - (intOf ks).toNat)
                case atStart =>
                  refine ⟨0, stF X i (Z i), by go_num, Nat.zero_le _, ?_, (unhide HX0).set i _, stF_R (unhide HRX) (unhide RZ i), fun t h1 h2 => ?_, ?_, (unhide HK).trans (Kp2.of_kept (kept_set wr bx i _) (Or.inr (Or.inl rfl)))⟩
                  · show RfAt _ _ (_ || false)
                    rw [Bool.or_false]; exact (unhide HR0).kept (kept_set wr bx i _) (by have := unhide A6; have := unhide A7; omega)
                  · rw [stF_other _ _ (by omega)]; exact unhide HT t h1 h2
                  · rw [stF_same]; exact unhide HZZ i hin
                case round =>
                  obtain ⟨t, X, rfl, ht, hR, hX, hRX, hT, hXi, hK⟩ := hrel
                  have HR := hide hR; have HX := hide hX; have RX := hide hRX; have HT2 := hide hT; have HXI := hide hXi; have HK2 := hide hK
                  clear hR hX hRX hT hXi hK
                  rename World => wr
                  by_cases htm : t < m
                  · have HJ := hide ((unhide F7).2.1.kp2 (unhide HK2) (by have := unhide A6; have := unhide A7; omega) (by have := unhide A5; have := unhide A6; have := unhide A7; omega) (by have := unhide A5; have := unhide A6; have := unhide A7; omega) (by have := unhide A5; have := unhide A6; have := unhide A7; have := unhide HBB; omega))
                    have HNE := hide (show bx ≠ VL + 1 ∧ VL ≠ VL + 1 ∧ r ≠ VL + 1 ∧ True from ⟨by have := unhide A6; have := unhide A7; omega, by omega, by have := unhide A5; omega, trivial⟩)
                    obtain ⟨k, ek⟩ : ∃ k, i + 1 + t = k := ⟨_, rfl⟩
                    rw [ek]
                    have hkn : k < j := by omega
                    have hsq := idx_lt hkn hin
                    rw [unhide HQ] at hsq
                    have wp := wrap_sq h6 (show k ≤ 6 by omega)
                    obtain ⟨p, ep⟩ : ∃ p, k * j = p := ⟨_, rfl⟩
                    obtain ⟨s, es⟩ : ∃ s, p + i = s := ⟨_, rfl⟩
                    rw [ep] at wp hsq
                    rw [es] at hsq
                    have ws : IntKind.i64.wrap ((p : Int) + (i : Int)) = (s : Int) := by rw [IntKind.wrap_i64]; omega
                    have EG := hide (show g s = g ((i + 1 + t) * j + i) by rw [ek, ep, es])
                    have EK := hide (show X k = upF j g zz m (i + 1 + t) by rw [ek]; exact unhide HT2 k (by omega) hkn)
                    have EKK := hide ek
                    clear ep es
                    have hS : ClU bx i k VL r s (X i) (X k) (.slice (some ⟨r, 0, none⟩) q c) (g s) wr.drew := ⟨(unhide HX).cell hin, (unhide HX).cell hkn, by have := (unhide HJ).cl.cell1; rw [unhide HQ] at this; exact this, by have := (unhide HJ).cg.cell (i := s) (by rw [unhide HQ]; exact hsq); exact this⟩
                    go_wp2_with fail
                    refine region_by (S := ClU bx i k VL r s (X i) (X k) (.slice (some ⟨r, 0, none⟩) q c) (g s))
                      [(0, false), (1, false), (2, false), (3, false), (4, false), (5, false), (6, false), (7, false), (8, false), (9, false), (10, false), (11, false), (12, false), (13, false), (14, false), (15, false), (16, false), (17, false), (18, false), (19, false), (20, false), (21, true), (22, true), (23, false), (24, true)] [24] (by kernel_rfl) (by kernel_rfl) ?_
                    iterate 21
                      refine seq_read (v := ?_) rfl (fun _ _ _ h => h) (by rfl) hS ?_ ?_
                      rotate_left 1
                      · intro wx hwx
                        obtain ⟨q1, q2, q3, q4⟩ := hwx
                        go_simp <;> exact rfl
                      go_frame
                    refine seq_do rfl (fun K hK => ?_)
                    go_simp
                    refine (rfMul_ok (VL + 1) _ _ _ _ (unhide RG _) (unhide RX k) (show RfAt wr.drew (VL + 1) _ from unhide HR)).mono ?_
                    rintro e w7 ⟨rfl, h7, k7⟩
                    have NE := unhide HNE
                    have hS7 := ClU.kept (w := wr.drew) hS k7 NE.1 NE.2.1 NE.2.2.1
                    refine hK _ _ (fun _ => hS7) ?_
                    have R7 := hide h7; have K7 := hide ((kept_drew (z := VL + 1) wr).trans k7 (Or.inl rfl))
                    clear hK K hS h7 k7
                    refine seq_do rfl (fun K hK => ?_)
                    go_simp
                    refine (rfSub_ok (VL + 1) _ _ _ _ (unhide RX i) (clampZ_R _) (unhide R7)).mono ?_
                    rintro e w8 ⟨rfl, h8, k8⟩
                    have hS8 := hS7.kept k8 NE.1 NE.2.1 NE.2.2.1
                    refine hK _ _ (fun _ => hS8) ?_
                    have R8 := hide h8; have K8 := hide ((unhide K7).trans k8 (Or.inl rfl))
                    have X8 := hide ((unhide HX).kept (unhide K8) NE.1)
                    clear hK K hS7 h8 k8
                    refine seq_read (v := ?_) rfl (fun _ _ _ h => h) (by rfl) hS8 ?_ ?_
                    rotate_left 1
                    · intro wx hwx
                      clear hwx
                      go_simp <;> exact rfl
                    go_frame
                    have c8 := hS8.1
                    have f8 := (unhide X8).free i
                    refine seq_do rfl (fun K hK => ?_)
                    go_simp
                    refine hK _ _ (fun h => by cases h) ?_
                    clear hK K hS8 c8 f8
                    refine seq_end ?_
                    have F := hide (show RfAt (w8.setCell ⟨bx, i, none⟩ (.int .i64 (clampZ (X i - clampZ (mulQ (g s) (X k)))))) (VL + 1) _ ∧ Nh (w8.setCell ⟨bx, i, none⟩ (.int .i64 (clampZ (X i - clampZ (mulQ (g s) (X k)))))) bx j j (stF X i (clampZ (X i - clampZ (mulQ (g s) (X k))))) ∧ Kp2 (VL + 1) bx wr (w8.setCell ⟨bx, i, none⟩ (.int .i64 (clampZ (X i - clampZ (mulQ (g s) (X k)))))) from
                      ⟨(unhide R8).kept (kept_set w8 bx i _) NE.1.symm, (unhide X8).set i _, (Kp2.of_kept (unhide K8) (Or.inl rfl)).trans (Kp2.of_kept (kept_set w8 bx i _) (Or.inr (Or.inl rfl)))⟩)
                    generalize w8.setCell ⟨bx, i, none⟩ (.int .i64 (clampZ (X i - clampZ (mulQ (g s) (X k))))) = w9 at *
                    go_wp2_with fail
                    go_roundw
                    case rel =>
                      refine ⟨t + 1, _, by subst ek; go_num, by omega, ?_, (unhide F).2.1, stF_R (unhide RX) (clampZ_R _), fun t' h1 h2 => by rw [stF_other _ _ (by omega)]; exact unhide HT2 t' h1 h2, ?_, (unhide HK2).trans (unhide F).2.2⟩
                      · have hm := (unhide F).1
                        rw [unhide EG, unhide EK, unhide HXI] at hm
                        simp only [Bool.or_assoc] at hm
                        show RfAt _ (VL + 1) (_ || (sbB (zz i) (fun t => g ((i + 1 + t) * j + i)) (fun t => upF j g zz m (i + 1 + t)) t || _ || _))
                        simp only [Bool.or_assoc]
                        exact hm
                      · rw [stF_same, unhide EG, unhide EK, unhide HXI]; rfl
                    case measure => simp [intOf] <;> omega
                  · have htm2 : t = m := by omega
                    subst htm2
                    have hnk : i + 1 + t = j := by omega
                    rw [hnk]
                    have ew : IntKind.i64.wrap ((i : Int) - 1) = (i : Int) - 1 := by rw [IntKind.wrap_i64]; omega
                    go_wp2_with fail
                    go_roundw
                    case rel =>
                      refine ⟨t + 1, X, by rw [show ((i : Int) - 1) = (j : Int) - 1 - ((t + 1 : Nat) : Int) by omega], by omega, ?_, unhide HX, unhide RX, fun t' h1 h2 => ?_, unhide HK2⟩
                      · have hm := unhide HR
                        rw [Bool.or_assoc] at hm
                        show RfAt _ _ (_ || upB j g zz (t + 1))
                        rw [upB_step ei]; exact hm
                      · rw [upF_step ei]
                        by_cases e : t' = i
                        · subst e; rw [stF_same]; exact unhide HXI
                        · rw [stF_other _ _ e]; exact unhide HT2 t' (by omega) h2
                    case measure => simp [intOf] <;> omega
              · have hmn2 : m = j := by omega
                subst hmn2
                rw [show ((m : Int) - 1 - m) = -1 by omega]
                have cb := (unhide HR0).cell0
                go_wp2_with fail
                go_region
                go_wp2_with fail
                go_ret3
                refine Or.inl ⟨unhide OK, bx, g, X, unhide IG, ?_, unhide HX0, fun t ht => by rw [← unhide EZZ]; exact unhide HT t (by omega) ht, below_drew (Kp2.below (unhide F7).2.2.2.2.1 (unhide HK) (by have := unhide A5; omega) (by have := unhide A5; have := unhide A6; have := unhide A7; omega) (unhide F7).2.2.2.2.1.size)⟩
                rw [← unhide EZZ]; rfl
  · have K3 := hide ((unhide K2).trans (Below.le k3 (unhide K2).size)); have NOK := hide nok
    clear k3 c0 c1 nok
    go_wp2_with fail
    go_ret3
    exact Or.inr ⟨unhide NOK, rfl, (unhide K3).alloc (unhide K3).size _⟩

end Go.Proofs.Ytnfejfdekedmhaa
