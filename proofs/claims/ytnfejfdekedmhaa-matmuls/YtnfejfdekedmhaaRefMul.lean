/- Contracts: MatMul of the reference. -/
import Derived.Test.YtnfejfdekedmhaaRefTimes
import Derived.Test.YtnfejfdekedmhaaMatFaceM
namespace Go.Proofs.Ytnfejfdekedmhaa
open Go.RowKit

set_option maxHeartbeats 400000 in
theorem mul1_core (bm bc bn bs o q cap n c k d p s : Nat) (z : Int) (w : World) (hn0 : ¬ n = 0) (c1 : w.cell? ⟨bm, 1, none⟩ = some (.slice (some ⟨bs, o, none⟩) q cap)) (cc : w.cell? ⟨bc, 0, none⟩ = some (.int .i64 (c : Int))) (cn : w.cell? ⟨bn, 0, none⟩ = some (.int .i64 (n : Int)))
    (hd : (c : Int).tdiv (n : Int) = (d : Int)) (wd : IntKind.i64.wrap (d : Int) = (d : Int)) (wp : IntKind.i64.wrap ((d : Int) * (n : Int)) = (p : Int)) (ws : IntKind.i64.wrap ((p : Int) + (k : Int)) = (s : Int)) (hs : s < q) (cz : w.cell? ⟨bs, o + s, none⟩ = some (.int .i64 z)) :
    Calls Try.prog 30 #[.int .i64 (k : Int), .pointer (some ⟨bm, 0, none⟩), .pointer (some ⟨bc, 0, none⟩), .pointer (some ⟨bn, 0, none⟩)] w fun e w' => e = .returned (.int .i64 z) ∧ Below w.heap.size w w' := by
  go_enter Try.func30, Try.ntmps30
  go_wp2_with fail
  go_region
  go_wp2_with fail
  go_ret
  exact ⟨rfl, below_drew (Below.refl _ _)⟩
set_option maxHeartbeats 400000 in
theorem mul2_core (bm bc bn bs o q cap n c k d p s : Nat) (z : Int) (w : World) (hn0 : ¬ n = 0) (c1 : w.cell? ⟨bm, 1, none⟩ = some (.slice (some ⟨bs, o, none⟩) q cap)) (cc : w.cell? ⟨bc, 0, none⟩ = some (.int .i64 (c : Int))) (cn : w.cell? ⟨bn, 0, none⟩ = some (.int .i64 (n : Int)))
    (hd : (c : Int).tmod (n : Int) = (d : Int)) (wp : IntKind.i64.wrap ((k : Int) * (n : Int)) = (p : Int)) (ws : IntKind.i64.wrap ((p : Int) + (d : Int)) = (s : Int)) (hs : s < q) (cz : w.cell? ⟨bs, o + s, none⟩ = some (.int .i64 z)) :
    Calls Try.prog 31 #[.int .i64 (k : Int), .pointer (some ⟨bm, 0, none⟩), .pointer (some ⟨bn, 0, none⟩), .pointer (some ⟨bc, 0, none⟩)] w fun e w' => e = .returned (.int .i64 z) ∧ Below w.heap.size w w' := by
  go_enter Try.func31, Try.ntmps31
  go_wp2_with fail
  go_region
  go_wp2_with fail
  go_ret
  exact ⟨rfl, below_drew (Below.refl _ _)⟩
theorem mul1_in : EntersR 30 := entersR_of Try.func30 (by kernel_rfl) (by kernel_rfl)
theorem mul2_in : EntersR 31 := entersR_of Try.func31 (by kernel_rfl) (by kernel_rfl)

/-- What the closures of MatMul read. -/
structure MuJ (bm bk bn bi ba o bb ob n ca cb i : Nat) (f g : Nat → Int) (w : World) : Prop where
  ca : MbAt w bm (n : Int) (.slice (some ⟨ba, o, none⟩) (n * n) ca)
  cb : MbAt w bk (n : Int) (.slice (some ⟨bb, ob, none⟩) (n * n) cb)
  cn : w.cell? ⟨bn, 0, none⟩ = some (.int .i64 (n : Int))
  ci : w.cell? ⟨bi, 0, none⟩ = some (.int .i64 (i : Int))
  cf : ∀ k, k < n * n → w.cell? ⟨ba, o + k, none⟩ = some (.int .i64 (f k))
  cg : ∀ k, k < n * n → w.cell? ⟨bb, ob + k, none⟩ = some (.int .i64 (g k))
theorem MuJ.kept {z : Nat} {bm bk bn bi ba o bb ob n ca cb i : Nat} {f g : Nat → Int} {w w' : World} (h : MuJ bm bk bn bi ba o bb ob n ca cb i f g w) (k : Kept z w w') (h1 : bm ≠ z) (h2 : bk ≠ z) (h3 : bn ≠ z) (h4 : bi ≠ z) (h5 : ba ≠ z) (h6 : bb ≠ z) : MuJ bm bk bn bi ba o bb ob n ca cb i f g w' :=
  ⟨h.ca.kept k h1, h.cb.kept k h2, at_kept h.cn k h3, at_kept h.ci k h4, fun j hj => at_kept (h.cf j hj) k h5, fun j hj => at_kept (h.cg j hj) k h6⟩
theorem mul1_any {bm bk bn bi ba o bb ob n ca cb i : Nat} {f g : Nat → Int} (h1 : 1 ≤ n) (h6 : n ≤ 6) (hi : i < n * n) (t : Nat) (ht : t < n) (w : World) (h : MuJ bm bk bn bi ba o bb ob n ca cb i f g w) :
    Calls Try.prog 30 (#[.int .i64 (t : Int)] ++ #[.pointer (some ⟨bm, 0, none⟩), .pointer (some ⟨bi, 0, none⟩), .pointer (some ⟨bn, 0, none⟩)]) w fun e w' => e = .returned (.int .i64 (rowF n f (i / n) t)) ∧ Below w.heap.size w w' := by
  have hd : i / n < n := Nat.div_lt_of_lt_mul hi
  exact mul1_core bm bi bn ba o (n * n) ca n i t (i / n) (i / n * n) (i / n * n + t) _ w (by omega) h.ca.cell1 h.ci h.cn rfl (by generalize i / n = d at *; rw [IntKind.wrap_i64]; omega) (wrap_sq h6 (by omega)) (by have := idx_lt hd ht; have := sq_le h6; rw [IntKind.wrap_i64]; omega) (idx_lt hd ht) (h.cf _ (idx_lt hd ht))
theorem mul2_any {bm bk bn bi ba o bb ob n ca cb i : Nat} {f g : Nat → Int} (h1 : 1 ≤ n) (h6 : n ≤ 6) (t : Nat) (ht : t < n) (w : World) (h : MuJ bm bk bn bi ba o bb ob n ca cb i f g w) :
    Calls Try.prog 31 (#[.int .i64 (t : Int)] ++ #[.pointer (some ⟨bk, 0, none⟩), .pointer (some ⟨bn, 0, none⟩), .pointer (some ⟨bi, 0, none⟩)]) w fun e w' => e = .returned (.int .i64 (g (t * n + i % n))) ∧ Below w.heap.size w w' := by
  have hd : i % n < n := Nat.mod_lt _ h1
  exact mul2_core bk bi bn bb ob (n * n) cb n i t (i % n) (t * n) (t * n + i % n) _ w (by omega) h.cb.cell1 h.ci h.cn rfl (wrap_sq h6 (by omega)) (by have := idx_lt ht hd; have := sq_le h6; rw [IntKind.wrap_i64]; omega) (idx_lt ht hd) (h.cg _ (idx_lt ht hd))

/-- The number c of the product. -/
def mulE (n : Nat) (f g : Nat → Int) (c : Nat) : Int := chV (rowF n f (c / n)) (fun t => g (t * n + c % n)) n
def mulEB (n : Nat) (f g : Nat → Int) (c : Nat) : Bool := chB (rowF n f (c / n)) (fun t => g (t * n + c % n)) n
theorem mulE_is (n : Nat) (f g : Nat → Int) : IsMul n f g (mulE n f g) := by
  intro a c ha hc
  unfold mulE
  rw [idx_div hc, idx_mod hc]; rfl
theorem mulEB_is (n : Nat) (f g : Nat → Int) : anyB (mulEB n f g) (n * n) = mulB n f g := by
  refine Bool.eq_iff_iff.2 ?_
  unfold mulB
  simp only [anyB_iff]
  constructor
  · rintro ⟨k, hk, h⟩
    obtain ⟨a, c, ha, hc, rfl⟩ := idx_of hk
    refine ⟨c, hc, a, ha, ?_⟩
    unfold mulEB at h
    rw [idx_div hc, idx_mod hc] at h; exact h
  · rintro ⟨c, hc, a, ha, h⟩
    refine ⟨a * n + c, idx_lt ha hc, ?_⟩
    unfold mulEB
    rw [idx_div hc, idx_mod hc]; exact h

/-- The cells that MatMul's round reads. -/
def ClM (bt bn : Nat) (vt : Value) (n : Nat) (w : World) : Prop := w.cell? ⟨bt, 1, none⟩ = some vt ∧ w.cell? ⟨bn, 0, none⟩ = some (.int .i64 (n : Int))

set_option maxRecDepth 100000 in
set_option maxHeartbeats 4000000 in
theorem refMul_good (n : Nat) (ao bo : Option Addr) (ca cb : Nat) (f g : Nat → Int) (w : World) (h1 : 1 ≤ n) (h6 : n ≤ 6) (hf : ∀ i, R64 (f i)) (hg : ∀ i, R64 (g i)) (hra : Rds w ao (n * n) f) (hrb : Rds w bo (n * n) g) :
    Calls Try.prog 17 #[.agg #[.int .i64 (n : Int), .slice ao (n * n) ca], .agg #[.int .i64 (n : Int), .slice bo (n * n) cb]] w fun e w' =>
      ∃ (r c : Nat), e = .returned (.tuple #[.agg #[.int .i64 (n : Int), .slice (some ⟨r, 0, none⟩) (n * n) c], .bool (mulB n f g), .int .i64 0]) ∧ Nh w' r (n * n) c (mulE n f g) ∧ Below w.heap.size w w' := by
  obtain ⟨i0, hi0, hz0, hz1, hz2⟩ := info_parts infoInt
  obtain ⟨ba, oa, rfl, hca⟩ := hra (Nat.mul_le_mul h1 h1)
  obtain ⟨bb, ob, rfl, hcb⟩ := hrb (Nat.mul_le_mul h1 h1)
  have G := hide (goodM_nat h1 h6)
  have HBA := hide (show ba < w.heap.size from World.block_lt_of_cell? w ⟨ba, oa + 0, none⟩ (hca 0 (Nat.mul_le_mul h1 h1)))
  have HBB := hide (show bb < w.heap.size from World.block_lt_of_cell? w ⟨bb, ob + 0, none⟩ (hcb 0 (Nat.mul_le_mul h1 h1)))
  have hq36 := hide (sq_le h6)
  have hq1 := hide (show 1 ≤ n * n from Nat.mul_le_mul h1 h1)
  obtain ⟨q, hq⟩ : ∃ q, n * n = q := ⟨_, rfl⟩
  have wq : IntKind.i64.wrap ((n : Int) * (n : Int)) = (q : Int) := by rw [wrap_sq h6 h6, hq]
  have hq36' : q ≤ 36 := by rw [← hq]; exact sq_le h6
  have HQ := hide hq
  clear hq
  obtain ⟨w1, e1, m0, m1, m2, k1, s1⟩ := mat_three w (n : Int) (n : Int) (.slice (some ⟨ba, oa, none⟩) (n * n) ca) (.slice (some ⟨bb, ob, none⟩) (n * n) cb)
  have c0 := m0.cell0; have c1 := m0.cell1
  have tn : ((n : Int) != (n : Int)) = false := by simp
  have E1 := hide e1; have M0 := hide m0; have M1 := hide m1; have M2 := hide m2; have K1 := hide k1; have S1 := hide s1
  have HF := hide hf; have HG := hide hg; have HCA := hide hca; have HCB := hide hcb; have H1 := hide h1
  clear e1 m0 m1 m2 k1 s1 hf hg hca hcb hra hrb h1
  go_enter Try.func17, Try.ntmps17
  go_wp2_with fail
  rw [← unhide E1]
  go_wp2_with fail
  refine (goodMat_any (n : Int) _ (n * n) ca _).mono ?_
  rintro e w2 ⟨rfl, k2⟩
  rw [unhide G]
  have K2 := hide (show Below w.heap.size w w2 from (unhide K1).trans (Below.le k2 (by have := unhide S1; omega)))
  have N2 := hide ((unhide M2).below k2); have N0 := hide ((unhide M0).below k2)
  have S2 := hide (show w.heap.size + 1 + 1 + 1 ≤ w2.heap.size from by have := unhide S1; have := k2.size; omega)
  have m1 := (unhide M1).below k2
  clear k2 c0 c1
  have c0 := m1.cell0; have c1 := m1.cell1
  have N1 := hide m1
  clear m1
  go_wp2_with fail
  refine (goodMat_any (n : Int) _ (n * n) cb _).mono ?_
  rintro e w4 ⟨rfl, k4⟩
  rw [unhide G]
  have F4 := hide (show MbAt w4 w.heap.size (n : Int) (.slice (some ⟨ba, oa, none⟩) (n * n) ca) ∧ MbAt w4 (w.heap.size + 1) (n : Int) (.slice (some ⟨bb, ob, none⟩) (n * n) cb) ∧ MbAt w4 (w.heap.size + 1 + 1) 0 (.slice none 0 0) ∧ Below w.heap.size w w4 ∧ w.heap.size + 1 + 1 + 1 ≤ w4.heap.size from
    ⟨(unhide N0).below k4, (unhide N1).below k4, (unhide N2).below k4, (unhide K2).trans (Below.le k4 (unhide K2).size), by have := unhide S2; have := k4.size; omega⟩)
  clear k4 c0 c1
  have c0 := (unhide F4).1.cell0; have d0 := (unhide F4).2.1.cell0; have cl := (unhide F4).1.lt
  obtain ⟨w5, e5⟩ : ∃ w5, w5 = (((w4.alloc (.cells #[.bool false] 48)).alloc (.cells #[.int .i64 (n : Int)] 3)).alloc (.cells #[.int .i64 (n : Int), .slice none 0 0] 24)).alloc (.cells #[.int .i64 0] 3) := ⟨_, rfl⟩
  have F5 := hide (show RfAt w5 w4.heap.size false ∧ MuJ w.heap.size (w.heap.size + 1) (w4.heap.size + 1) (w4.heap.size + 1 + 1 + 1) ba oa bb ob n ca cb 0 f g w5 ∧ MbAt w5 (w.heap.size + 1 + 1) 0 (.slice none 0 0) ∧ MbAt w5 (w4.heap.size + 1 + 1) (n : Int) (.slice none 0 0) ∧ Below w.heap.size w w5 ∧ w5.heap.size = w4.heap.size + 1 + 1 + 1 + 1 from by
    obtain ⟨a1, a2, a3, a4, a5⟩ := unhide F4
    have sA := al_size w4 (.cells #[.bool false] 48)
    have sB := al_size (w4.alloc (.cells #[.bool false] 48)) (.cells #[.int .i64 (n : Int)] 3)
    have sC := al_size ((w4.alloc (.cells #[.bool false] 48)).alloc (.cells #[.int .i64 (n : Int)] 3)) (.cells #[.int .i64 (n : Int), .slice none 0 0] 24)
    have kk : Below w4.heap.size w4 w5 := by
      rw [e5]; exact ((((Below.refl _ _).alloc (Nat.le_refl _) _).alloc (by omega) _).alloc (by omega) _).alloc (by omega) _
    have k5 := a4.trans (Below.le kk a4.size)
    have hR := ((BlAt.new 48 w4 false).below (al_below _ (.cells #[.int .i64 (n : Int)] 3))).below (al_below _ (.cells #[.int .i64 (n : Int), .slice none 0 0] 24))
    have hN := heap_alloc_new (w4.alloc (.cells #[.bool false] 48)) (.cells #[.int .i64 (n : Int)] 3)
    rw [sA] at hN
    have hN2 : ((w4.alloc (.cells #[.bool false] 48)).alloc (.cells #[.int .i64 (n : Int)] 3)).cell? ⟨w4.heap.size + 1, 0, none⟩ = some (.int .i64 (n : Int)) := by unfold World.cell?; rw [hN]; rfl
    have hT := MbAt.new ((w4.alloc (.cells #[.bool false] 48)).alloc (.cells #[.int .i64 (n : Int)] 3)) (n : Int) (.slice none 0 0)
    rw [sB, sA] at hT
    have hC := heap_alloc_new (((w4.alloc (.cells #[.bool false] 48)).alloc (.cells #[.int .i64 (n : Int)] 3)).alloc (.cells #[.int .i64 (n : Int), .slice none 0 0] 24)) (.cells #[.int .i64 0] 3)
    rw [sC, sB, sA] at hC
    have hC2 : ((((w4.alloc (.cells #[.bool false] 48)).alloc (.cells #[.int .i64 (n : Int)] 3)).alloc (.cells #[.int .i64 (n : Int), .slice none 0 0] 24)).alloc (.cells #[.int .i64 0] 3)).cell? ⟨w4.heap.size + 1 + 1 + 1, 0, none⟩ = some (.int .i64 ((0 : Nat) : Int)) := by unfold World.cell?; rw [hC]; rfl
    refine ⟨?_, ⟨a1.below kk, a2.below kk, ?_, ?_, fun j hj => at_below (unhide HCA j hj) k5, fun j hj => at_below (unhide HCB j hj) k5⟩, a3.below kk, ?_, k5, ?_⟩
    · rw [e5]; exact hR.below (al_below _ _)
    · rw [e5]; exact at_below (at_below hN2 (al_below _ _)) (al_below _ _)
    · rw [e5]; exact hC2
    · rw [e5]; exact hT.below (al_below _ _)
    · rw [e5, al_size, sC, sB, sA])
  have E5 := hide e5
  clear e5
  go_wp2_with fail
  rw [← unhide E5]
  clear c0 d0 cl tn
  go_loopw [10] (fun ps wr => ∃ (k c bi : Nat) (at_ : Option Addr), k ≤ q ∧ ps = .pointer (some ⟨bi, 0, none⟩) ∧ w4.heap.size + 1 + 1 < bi ∧ (∀ z, Value.ownBlock (.slice at_ k c) = some z → z ≠ bi) ∧ RfAt wr w4.heap.size (anyB (mulEB n f g) k) ∧ MuJ w.heap.size (w.heap.size + 1) (w4.heap.size + 1) bi ba oa bb ob n ca cb k f g wr ∧ MbAt wr (w.heap.size + 1 + 1) 0 (.slice none 0 0) ∧ MbAt wr (w4.heap.size + 1 + 1) (n : Int) (.slice at_ k c) ∧ GrowR wr (w4.heap.size + 1 + 1 + 1) at_ k c (mulE n f g) ∧ Below w.heap.size w wr ∧ w4.heap.size + 1 + 1 + 1 ≤ wr.heap.size)
    (fun ps wr => q - (match ps with | .pointer (some a) => (match wr.cell? a with | some v => (intOf v).toNat | none => 0) | _ => 0))
  case atStart =>
    obtain ⟨a1, a2, a3, a4, a5, a6⟩ := unhide F5
    exact ⟨0, 0, w4.heap.size + 1 + 1 + 1, none, Nat.zero_le _, rfl, by omega, (fun z h => by cases h), a1, a2, a3, a4, World.ownsRow_nil _ _ _ _, a5, by omega⟩
  case round =>
    obtain ⟨k, c, bi, at_, hk, rfl, hbi, ho, hR, hJ, mr, mt, hgr, hK, hs⟩ := hrel
    have c0 := hJ.ci; have c1 := hJ.cn
    have HBI := hide hbi; have HO := hide ho; have HR := hide hR; have HJ := hide hJ; have MR := hide mr; have MT := hide mt; have HGR := hide hgr; have HK := hide hK; have HS := hide hs
    have CI := hide c0
    clear hbi ho hR hJ mr mt hgr hK hs
    rename World => wr
    by_cases hkq : k < q
    · have hS : ClM (w4.heap.size + 1 + 1) (w4.heap.size + 1) (.slice at_ k c) n wr.drew := ⟨(unhide MT).cell1, (unhide HJ).cn⟩
      go_wp2_with fail
      clear c0 c1
      refine region_by (S := ClM (w4.heap.size + 1 + 1) (w4.heap.size + 1) (.slice at_ k c) n)
        [(0, false), (1, false), (2, false), (3, false), (4, false), (5, false), (6, true), (7, true), (8, true), (9, false), (10, true)] [10] (by kernel_rfl) (by kernel_rfl) ?_
      iterate 6
        refine seq_read (v := ?_) rfl (fun _ _ _ h => h) (by rfl) hS ?_ ?_
        rotate_left 1
        · intro wx hwx
          obtain ⟨q1, q2⟩ := hwx
          go_simp <;> exact rfl
        go_frame
      refine seq_do rfl (fun K hK => ?_)
      go_simp
      have hkn : k < n * n := by rw [unhide HQ]; exact hkq
      refine (chain_any _ _ _ _ mul1_in mul2_in n w4.heap.size (rowF n f (k / n)) (fun t => g (t * n + k % n)) (MuJ w.heap.size (w.heap.size + 1) (w4.heap.size + 1) bi ba oa bb ob n ca cb k f g) (fun t => unhide HF _) (fun t => unhide HG _) (fun t ht u hu => mul1_any (unhide H1) h6 hkn t ht u hu) (fun t ht u hu => mul2_any (unhide H1) h6 t ht u hu)
        (fun u u' hu kk => hu.kept kk (by have := (unhide F4).2.2.2.2; omega) (by have := (unhide F4).2.2.2.2; omega) (by omega) (by have := unhide HBI; omega) (by have := unhide HBA; have := (unhide F4).2.2.2.2; omega) (by have := unhide HBB; have := (unhide F4).2.2.2.2; omega)) _ _ (show RfAt wr.drew _ _ from unhide HR) (MuJ.kept (unhide HJ) (kept_drew (z := w4.heap.size) wr) (by have := (unhide F4).2.2.2.2; omega) (by have := (unhide F4).2.2.2.2; omega) (by omega) (by have := unhide HBI; omega) (by have := unhide HBA; have := (unhide F4).2.2.2.2; omega) (by have := unhide HBB; have := (unhide F4).2.2.2.2; omega)) h6).mono ?_
      rintro e w6 ⟨rfl, h6', k6⟩
      have z4 := hide (unhide F4).2.2.2.2
      have F6 := hide (show RfAt w6 w4.heap.size (anyB (mulEB n f g) (k + 1)) ∧ MuJ w.heap.size (w.heap.size + 1) (w4.heap.size + 1) bi ba oa bb ob n ca cb k f g w6 ∧ MbAt w6 (w.heap.size + 1 + 1) 0 (.slice none 0 0) ∧ MbAt w6 (w4.heap.size + 1 + 1) (n : Int) (.slice at_ k c) ∧ GrowR w6 (w4.heap.size + 1 + 1 + 1) at_ k c (mulE n f g) ∧ Below w.heap.size w w6 ∧ w4.heap.size + 1 + 1 + 1 ≤ w6.heap.size from by
        have z := unhide z4; have hbi := unhide HBI; have hba := unhide HBA; have hbb := unhide HBB
        have k6' : Kept w4.heap.size wr w6 := (kept_drew wr).trans k6 (Or.inl rfl)
        exact ⟨h6', (unhide HJ).kept k6' (by omega) (by omega) (by omega) (by omega) (by omega) (by omega), (unhide MR).kept k6' (by omega), (unhide MT).kept k6' (by omega), (unhide HGR).kept k6' (by omega), below_of_kept (unhide HK) k6' (by omega) (unhide HK).size, Nat.le_trans (unhide HS) k6'.size⟩)
      have hS6 : ClM (w4.heap.size + 1 + 1) (w4.heap.size + 1) (.slice at_ k c) n w6 := ⟨(unhide F6).2.2.2.1.cell1, (unhide F6).2.1.cn⟩
      refine hK _ _ (fun _ => hS6) ?_
      clear hK K hS h6' k6
      refine seq_do rfl (fun K hK => ?_)
      go_simp
      obtain ⟨w7, e7⟩ : ∃ w7, w7 = w6.alloc (.cells #[.int .i64 (mulE n f g k)] 3) := ⟨_, rfl⟩
      have e7' : w6.alloc (.cells #[.int .i64 (chV (rowF n f (k / n)) (fun t => g (t * n + k % n)) n)] 3) = w7 := e7.symm
      have k7 : Below w6.heap.size w6 w7 := by rw [e7]; exact al_below w6 _
      have s7 := hide (show w7.heap.size = w6.heap.size + 1 by rw [e7]; exact al_size _ _)
      have OC := hide (show ∀ (j : Nat) (u : Value), [Value.int .i64 (mulE n f g k)][j]? = some u → w7.cell? ((⟨w6.heap.size, 0, none⟩ : Addr).add j) = some u by rw [e7]; exact one_cells w6 _)
      have hS7 : ClM (w4.heap.size + 1 + 1) (w4.heap.size + 1) (.slice at_ k c) n w7 := ⟨at_below hS6.1 k7, at_below hS6.2 k7⟩
      have hS7' : ClM (w4.heap.size + 1 + 1) (w4.heap.size + 1) (.slice at_ k c) n (w6.alloc (.cells #[.int .i64 (chV (rowF n f (k / n)) (fun t => g (t * n + k % n)) n)] 3)) := by rw [e7']; exact hS7
      have G7 := hide ((unhide F6).2.2.2.2.1.below k7)
      have J7 := hide (show MuJ w.heap.size (w.heap.size + 1) (w4.heap.size + 1) bi ba oa bb ob n ca cb k f g w7 from by
        have a := (unhide F6).2.1
        exact ⟨a.ca.below k7, a.cb.below k7, at_below a.cn k7, at_below a.ci k7, fun j hj => at_below (a.cf j hj) k7, fun j hj => at_below (a.cg j hj) k7⟩)
      have R7 := hide ((unhide F6).1.below k7); have MR7 := hide ((unhide F6).2.2.1.below k7); have MT7 := hide ((unhide F6).2.2.2.1.below k7)
      have K7 := hide ((unhide F6).2.2.2.2.2.1.trans (Below.le k7 (unhide F6).2.2.2.2.2.1.size))
      refine hK _ _ (fun _ => hS7') ?_
      rw [e7']
      clear hK K hS6 k7 e7 e7' hS7'
      refine seq_do rfl (fun K hK => ?_)
      rw [if_pos (by rfl)]
      refine wp_append_own (P := Try.prog) _ (.tmp 41) (.tmp 47) 22 rfl (w4.heap.size + 1 + 1 + 1) 3 i0 (.int .i64 0) 1 8 Try.underlying22 hi0 hz0 hz1 hz2 rfl (by decide) (.slice at_ k c) k (rowL (mulE n f g) k) rfl (unhide G7) ⟨w6.heap.size, 0, none⟩ 1 1 [.int .i64 (mulE n f g k)] rfl rfl (unhide OC) (one_one _) (by unfold maxLen; omega) (by omega) (by have := unhide s7; have := (unhide F6).2.2.2.2.2.2; omega) ?_
      intro v' w8 hown hgr hnil
      obtain ⟨ao', c', rfl, hg8⟩ := growR_next hown
      have F8 := hide (show RfAt w8 w4.heap.size (anyB (mulEB n f g) (k + 1)) ∧ MuJ w.heap.size (w.heap.size + 1) (w4.heap.size + 1) bi ba oa bb ob n ca cb k f g w8 ∧ MbAt w8 (w.heap.size + 1 + 1) 0 (.slice none 0 0) ∧ MbAt w8 (w4.heap.size + 1 + 1) (n : Int) (.slice at_ k c) ∧ GrowR w8 (w4.heap.size + 1 + 1 + 1) ao' (k + 1) c' (mulE n f g) ∧ Below w.heap.size w w8 ∧ w4.heap.size + 1 + 1 + 1 ≤ w8.heap.size from by
        have z := unhide z4; have hbi := unhide HBI; have hba := unhide HBA; have hbb := unhide HBB; have hs7 := unhide s7; have hs6 := (unhide F6).2.2.2.2.2.2
        have hbi6 : bi < w6.heap.size := World.block_lt_of_cell? w6 _ (unhide F6).2.1.ci
        obtain ⟨zz, kz, hzz⟩ := grown_kept hgr
        have hz1 : w4.heap.size + 1 + 1 + 1 ≤ zz ∧ zz ≠ bi := by
          rcases hzz with h | ⟨_, h⟩
          · exact ⟨(World.ownsRow.lt (unhide G7) zz h).1, unhide HO zz h⟩
          · exact ⟨by omega, by omega⟩
        exact ⟨(unhide R7).kept kz (by omega), (unhide J7).kept kz (by omega) (by omega) (by omega) (by omega) (by omega) (by omega), (unhide MR7).kept kz (by omega), (unhide MT7).kept kz (by omega), hg8, below_of_kept (unhide K7) kz (by omega) (unhide K7).size, by have := kz.size; omega⟩)
      have hS8 : ClM (w4.heap.size + 1 + 1) (w4.heap.size + 1) (.slice at_ k c) n w8 := ⟨(unhide F8).2.2.2.1.cell1, (unhide F8).2.1.cn⟩
      refine hK _ _ (fun _ => hS8) ?_
      clear hK K hS7 hown hgr hnil hg8
      refine seq_read (v := ?_) rfl (fun _ _ _ h => h) (by rfl) hS8 ?_ ?_
      rotate_left 1
      · intro wx hwx
        clear hwx
        go_simp <;> exact rfl
      go_frame
      clear hS8
      refine seq_do rfl (fun K hK => ?_)
      have t1 := (unhide F8).2.2.2.1.cell1; have f1 := (unhide F8).2.2.2.1.free 1
      go_simp
      refine hK _ _ (fun h => by cases h) ?_
      clear hK K t1 f1
      refine seq_end ?_
      obtain ⟨w9, e9, m9, k9⟩ := (unhide F8).2.2.2.1.put1 (.slice ao' (k + 1) c')
      rw [← e9]
      have F9 := hide (show RfAt w9 w4.heap.size (anyB (mulEB n f g) (k + 1)) ∧ MuJ w.heap.size (w.heap.size + 1) (w4.heap.size + 1) bi ba oa bb ob n ca cb k f g w9 ∧ MbAt w9 (w.heap.size + 1 + 1) 0 (.slice none 0 0) ∧ MbAt w9 (w4.heap.size + 1 + 1) (n : Int) (.slice ao' (k + 1) c') ∧ GrowR w9 (w4.heap.size + 1 + 1 + 1) ao' (k + 1) c' (mulE n f g) ∧ Below w.heap.size w w9 ∧ w4.heap.size + 1 + 1 + 1 ≤ w9.heap.size from by
        have z := unhide z4; have hbi := unhide HBI; have hba := unhide HBA; have hbb := unhide HBB
        obtain ⟨a1, a2, a3, a4, a5, a6, a7⟩ := unhide F8
        exact ⟨a1.kept k9 (by omega), a2.kept k9 (by omega) (by omega) (by omega) (by omega) (by omega) (by omega), a3.kept k9 (by omega), m9, a5.kept k9 (by omega), below_of_kept a6 k9 (by omega) a6.size, by have := k9.size; omega⟩)
      clear e9 m9 k9
      have c0 := (unhide F9).2.1.ci
      go_wp2_with fail
      go_roundw
      case rel =>
        obtain ⟨a1, a2, a3, a4, a5, a6, a7⟩ := unhide F9
        have kb := al_below w9 (.cells #[.int .i64 ((k : Int) + 1)] 3)
        have hc : (w9.alloc (.cells #[.int .i64 ((k : Int) + 1)] 3)).cell? ⟨w9.heap.size, 0, none⟩ = some (.int .i64 ((k + 1 : Nat) : Int)) := by
          have h := heap_alloc_new w9 (.cells #[.int .i64 ((k : Int) + 1)] 3)
          unfold World.cell?; rw [h]; rfl
        exact ⟨k + 1, c', w9.heap.size, ao', by omega, rfl, by omega, fun z hz => Nat.ne_of_lt (World.ownsRow.lt a5 z hz).2, a1.below kb, ⟨a2.ca.below kb, a2.cb.below kb, at_below a2.cn kb, hc, fun j hj => at_below (a2.cf j hj) kb, fun j hj => at_below (a2.cg j hj) kb⟩, a3.below kb, a4.below kb, a5.below kb, a6.alloc a6.size _, by rw [al_size]; omega⟩
      case measure =>
        have hc : (w9.alloc (.cells #[.int .i64 ((k : Int) + 1)] 3)).cell? ⟨w9.heap.size, 0, none⟩ = some (.int .i64 ((k : Int) + 1)) := by
          have h := heap_alloc_new w9 (.cells #[.int .i64 ((k : Int) + 1)] 3)
          unfold World.cell?; rw [h]; rfl
        simp [hc, unhide CI, intOf] <;> omega
    · have hkq2 : k = q := by omega
      subst hkq2
      obtain ⟨r, rfl, hrb, hn⟩ := (unhide HGR).nh (by rw [← unhide HQ]; exact unhide hq1)
      have cb' := (unhide HR).cell0
      have NR := hide hn; have HRB := hide hrb
      clear hn hrb
      have t0 := (unhide MT).cell0; have t1 := (unhide MT).cell1; have d0 := (unhide MR).cell0; have d1 := (unhide MR).cell1; have f0 := (unhide MR).free 0; have f1 := (unhide MR).free 1
      have z9 : w.heap.size + 1 + 1 < w4.heap.size := by have := (unhide F4).2.2.2.2; omega
      go_wp2_with fail
      go_region
      obtain ⟨w8, e8, m8, k8⟩ := (unhide MR).put (n : Int) (.slice (some ⟨r, 0, none⟩) k c)
      rw [← e8]
      have p0 : w8.drew.cell? ⟨w.heap.size + 1 + 1, 0, none⟩ = some (.int .i64 (n : Int)) := m8.cell0
      have p1 : w8.drew.cell? ⟨w.heap.size + 1 + 1, 1, none⟩ = some (.slice (some ⟨r, 0, none⟩) k c) := m8.cell1
      have F := hide (show Nh w8.drew r k c (mulE n f g) ∧ Below w.heap.size w w8.drew from ⟨Nh.kept (w' := w8) (unhide NR) k8 (by have := unhide HRB; have := (unhide F4).2.2.2.2; omega), below_drew (below_of_kept (unhide HK) k8 (by omega) (unhide HK).size)⟩)
      clear e8 m8 k8 t0 t1 d0 d1 f0 f1 c0 c1 cb'
      generalize w8.drew = w9 at *
      go_wp2_with fail
      refine bodyPost_ret (v := .tuple #[.agg #[.int .i64 (n : Int), .slice (some ⟨r, 0, none⟩) k c], .bool (anyB (mulEB n f g) k), .int .i64 0]) (by simp [results, Try.results17, go_sem, p0, p1]) rfl
        ⟨r, c, ?_, by rw [unhide HQ]; exact (unhide F).1, (unhide F).2⟩
      rw [unhide HQ, ← mulEB_is, unhide HQ]

end Go.Proofs.Ytnfejfdekedmhaa
