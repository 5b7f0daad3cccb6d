/- Contracts: Times of the reference. -/
import Derived.Test.YtnfejfdekedmhaaRefChain
import Derived.Test.YtnfejfdekedmhaaRefTurn
import Derived.Test.YtnfejfdekedmhaaMatTimes
namespace Go.Proofs.Ytnfejfdekedmhaa
open Go.RowKit

set_option maxHeartbeats 400000 in
theorem times1_core (bm bi ba o q cap n i t p s : Nat) (z : Int) (w : World) (c0 : w.cell? ⟨bm, 0, none⟩ = some (.int .i64 (n : Int))) (c1 : w.cell? ⟨bm, 1, none⟩ = some (.slice (some ⟨ba, o, none⟩) q cap)) (ci : w.cell? ⟨bi, 0, none⟩ = some (.int .i64 (i : Int)))
    (wp : IntKind.i64.wrap ((i : Int) * (n : Int)) = (p : Int)) (ws : IntKind.i64.wrap ((p : Int) + (t : Int)) = (s : Int)) (hs : s < q) (cz : w.cell? ⟨ba, o + s, none⟩ = some (.int .i64 z)) :
    Calls Try.prog 32 #[.int .i64 (t : Int), .pointer (some ⟨bm, 0, none⟩), .pointer (some ⟨bi, 0, none⟩)] w fun e w' => e = .returned (.int .i64 z) ∧ Below w.heap.size w w' := by
  go_enter Try.func32, Try.ntmps32
  go_wp2_with fail
  go_ret
  exact ⟨rfl, Below.refl _ _⟩
set_option maxHeartbeats 400000 in
theorem times2_core (bv ba o q cap t : Nat) (z : Int) (w : World) (c0 : w.cell? ⟨bv, 0, none⟩ = some (.slice (some ⟨ba, o, none⟩) q cap)) (ht : t < q) (cz : w.cell? ⟨ba, o + t, none⟩ = some (.int .i64 z)) :
    Calls Try.prog 33 #[.int .i64 (t : Int), .pointer (some ⟨bv, 0, none⟩)] w fun e w' => e = .returned (.int .i64 z) ∧ Below w.heap.size w w' := by
  go_enter Try.func33, Try.ntmps33
  go_wp2_with fail
  go_ret
  exact ⟨rfl, Below.refl _ _⟩
theorem times1_in : EntersR 32 := entersR_of Try.func32 (by kernel_rfl) (by kernel_rfl)
theorem times2_in : EntersR 33 := entersR_of Try.func33 (by kernel_rfl) (by kernel_rfl)

theorem grown_kept {w w' : World} {row : Option Nat} (h : w.grownBy w' row) : ∃ z, Kept z w w' ∧ (row = some z ∨ (row = none ∧ z = w.heap.size)) := by
  cases row with
  | none => exact ⟨w.heap.size, ⟨h.os, h.tape, h.output, h.size, fun k hk _ => h.block k hk (by simp)⟩, Or.inr ⟨rfl, rfl⟩⟩
  | some z => exact ⟨z, ⟨h.os, h.tape, h.output, h.size, fun k hk hne => h.block k hk (by simpa using hne)⟩, Or.inl rfl⟩
/-- What the closures of Times read. -/
structure TmJ (bm bv bi ba o bb ob n cap cv i : Nat) (f v : Nat → Int) (w : World) : Prop where
  cm : MbAt w bm (n : Int) (.slice (some ⟨ba, o, none⟩) (n * n) cap)
  cw : w.cell? ⟨bv, 0, none⟩ = some (.slice (some ⟨bb, ob, none⟩) n cv)
  ci : w.cell? ⟨bi, 0, none⟩ = some (.int .i64 (i : Int))
  cf : ∀ k, k < n * n → w.cell? ⟨ba, o + k, none⟩ = some (.int .i64 (f k))
  cg : ∀ k, k < n → w.cell? ⟨bb, ob + k, none⟩ = some (.int .i64 (v k))
theorem TmJ.kept {z : Nat} {bm bv bi ba o bb ob n cap cv i : Nat} {f v : Nat → Int} {w w' : World} (h : TmJ bm bv bi ba o bb ob n cap cv i f v w) (k : Kept z w w') (h1 : bm ≠ z) (h2 : bv ≠ z) (h3 : bi ≠ z) (h4 : ba ≠ z) (h5 : bb ≠ z) : TmJ bm bv bi ba o bb ob n cap cv i f v w' :=
  ⟨h.cm.kept k h1, at_kept h.cw k h2, at_kept h.ci k h3, fun j hj => at_kept (h.cf j hj) k h4, fun j hj => at_kept (h.cg j hj) k h5⟩
theorem times1_any {bm bv bi ba o bb ob n cap cv i : Nat} {f v : Nat → Int} (h6 : n ≤ 6) (hi : i < n) (t : Nat) (ht : t < n) (w : World) (h : TmJ bm bv bi ba o bb ob n cap cv i f v w) :
    Calls Try.prog 32 (#[.int .i64 (t : Int)] ++ #[.pointer (some ⟨bm, 0, none⟩), .pointer (some ⟨bi, 0, none⟩)]) w fun e w' => e = .returned (.int .i64 (rowF n f i t)) ∧ Below w.heap.size w w' :=
  times1_core bm bi ba o (n * n) cap n i t (i * n) (i * n + t) _ w h.cm.cell0 h.cm.cell1 h.ci (wrap_sq h6 (by omega)) (by have := idx_lt hi ht; have := sq_le h6; rw [IntKind.wrap_i64]; omega) (idx_lt hi ht) (h.cf _ (idx_lt hi ht))
theorem times2_any {bm bv bi ba o bb ob n cap cv i : Nat} {f v : Nat → Int} (t : Nat) (ht : t < n) (w : World) (h : TmJ bm bv bi ba o bb ob n cap cv i f v w) :
    Calls Try.prog 33 (#[.int .i64 (t : Int)] ++ #[.pointer (some ⟨bv, 0, none⟩)]) w fun e w' => e = .returned (.int .i64 (v t)) ∧ Below w.heap.size w w' :=
  times2_core bv bb ob n cv t _ w h.cw ht (h.cg t ht)

set_option maxRecDepth 100000 in
set_option maxHeartbeats 4000000 in
theorem refTimes_good (n : Nat) (ao vo : Option Addr) (cap cv : Nat) (f v : Nat → Int) (w : World) (h1 : 1 ≤ n) (h6 : n ≤ 6) (hf : ∀ i, R64 (f i)) (hv : ∀ i, R64 (v i)) (hr : Rds w ao (n * n) f) (hrv : Rds w vo n v) :
    Calls Try.prog 19 #[.agg #[.int .i64 (n : Int), .slice ao (n * n) cap], .slice vo n cv] w fun e w' =>
      ∃ (r c : Nat), e = .returned (.tuple #[.slice (some ⟨r, 0, none⟩) n c, .bool (anyB (fun i => chB (rowF n f i) v n) n), .int .i64 0]) ∧ Nh w' r n c (fun i => chV (rowF n f i) v n) ∧ Below w.heap.size w w' := by
  obtain ⟨i0, hi0, hz0, hz1, hz2⟩ := info_parts infoInt
  obtain ⟨ba, o, rfl, hc⟩ := hr (Nat.mul_le_mul h1 h1)
  obtain ⟨bb, ob, rfl, hcv⟩ := hrv h1
  have G := hide (goodM_nat h1 h6)
  have HBA := hide (show ba < w.heap.size from World.block_lt_of_cell? w ⟨ba, o + 0, none⟩ (hc 0 (Nat.mul_le_mul h1 h1)))
  have HBB := hide (show bb < w.heap.size from World.block_lt_of_cell? w ⟨bb, ob + 0, none⟩ (hcv 0 h1))
  obtain ⟨w1, e1⟩ : ∃ w1, w1 = (w.alloc (.cells #[.int .i64 (n : Int), .slice (some ⟨ba, o, none⟩) (n * n) cap] 24)).alloc (.cells #[.slice (some ⟨bb, ob, none⟩) n cv] 22) := ⟨_, rfl⟩
  have F1 := hide (show MbAt w1 w.heap.size (n : Int) (.slice (some ⟨ba, o, none⟩) (n * n) cap) ∧ w1.cell? ⟨w.heap.size + 1, 0, none⟩ = some (.slice (some ⟨bb, ob, none⟩) n cv) ∧ Below w.heap.size w w1 ∧ w1.heap.size = w.heap.size + 1 + 1 from by
    rw [e1]
    refine ⟨(MbAt.new w _ _).below (al_below _ _), ?_, ((Below.refl _ _).alloc (Nat.le_refl _) _).alloc (by rw [al_size]; omega) _, by rw [al_size, al_size]⟩
    have h := heap_alloc_new (w.alloc (.cells #[.int .i64 (n : Int), .slice (some ⟨ba, o, none⟩) (n * n) cap] 24)) (.cells #[.slice (some ⟨bb, ob, none⟩) n cv] 22)
    rw [al_size] at h
    unfold World.cell?; rw [h]; rfl)
  have E1 := hide e1; have HF := hide hf; have HV := hide hv; have HC := hide hc; have HCV := hide hcv; have H1 := hide h1
  have tn : ((n : Int) != (n : Int)) = false := by simp
  have c0 := (unhide F1).1.cell0; have c1 := (unhide F1).1.cell1
  clear e1 hc hr hf hcv hrv hv h1
  go_enter Try.func19, Try.ntmps19
  go_wp2_with fail
  rw [← unhide E1]
  go_wp2_with fail
  refine (goodMat_any (n : Int) _ (n * n) cap _).mono ?_
  rintro e w2 ⟨rfl, k2⟩
  rw [unhide G]
  have F2 := hide (show MbAt w2 w.heap.size (n : Int) (.slice (some ⟨ba, o, none⟩) (n * n) cap) ∧ w2.cell? ⟨w.heap.size + 1, 0, none⟩ = some (.slice (some ⟨bb, ob, none⟩) n cv) ∧ Below w.heap.size w w2 ∧ w.heap.size + 1 + 1 ≤ w2.heap.size from by
    obtain ⟨a1, a2, a3, a4⟩ := unhide F1
    exact ⟨a1.below k2, at_below a2 k2, a3.trans (Below.le k2 a3.size), by have := k2.size; omega⟩)
  clear k2 c0 c1
  have c0 := (unhide F2).1.cell0; have c1 := (unhide F2).1.cell1; have cl := (unhide F2).1.lt; have cv' := (unhide F2).2.1; have cvl : w.heap.size + 1 < w2.heap.size := (unhide F2).2.2.2
  obtain ⟨w3, e3⟩ : ∃ w3, w3 = (w2.alloc (.cells #[.bool false] 48)).alloc (.cells #[.int .i64 0] 3) := ⟨_, rfl⟩
  have F3 := hide (show RfAt w3 w2.heap.size false ∧ TmJ w.heap.size (w.heap.size + 1) (w2.heap.size + 1) ba o bb ob n cap cv 0 f v w3 ∧ Below w.heap.size w w3 ∧ w3.heap.size = w2.heap.size + 1 + 1 from by
    obtain ⟨a1, a2, a3, a4⟩ := unhide F2
    have kk : Below w2.heap.size w2 w3 := by rw [e3]; exact ((Below.refl _ _).alloc (Nat.le_refl _) _).alloc (by rw [al_size]; omega) _
    have k3 := a3.trans (Below.le kk a3.size)
    refine ⟨?_, ⟨a1.below kk, at_below a2 kk, ?_, fun j hj => at_below (unhide HC j hj) k3, fun j hj => at_below (unhide HCV j hj) k3⟩, k3, by rw [e3, al_size, al_size]⟩
    · rw [e3]; exact (BlAt.new _ w2 false).below (al_below _ _)
    · rw [e3]
      have h := heap_alloc_new (w2.alloc (.cells #[.bool false] 48)) (.cells #[.int .i64 0] 3)
      rw [al_size] at h
      unfold World.cell?; rw [h]; rfl)
  have E3 := hide e3
  clear e3
  go_wp2_with fail
  rw [← unhide E3]
  clear c0 c1 cl cv' cvl tn
  go_loopw [8, 9] (fun os ps wr => ∃ (k c bi : Nat) (at_ : Option Addr), k ≤ n ∧ os = .slice at_ k c ∧ ps = .pointer (some ⟨bi, 0, none⟩) ∧ w2.heap.size < bi ∧ (∀ g, Value.ownBlock (.slice at_ k c) = some g → g ≠ bi) ∧ RfAt wr w2.heap.size (anyB (fun i => chB (rowF n f i) v n) k) ∧ TmJ w.heap.size (w.heap.size + 1) bi ba o bb ob n cap cv k f v wr ∧ GrowR wr (w2.heap.size + 1) at_ k c (fun i => chV (rowF n f i) v n) ∧ Below w.heap.size w wr ∧ w2.heap.size + 1 ≤ wr.heap.size)
    (fun os _ _ => n - (match os with | .slice _ k _ => k | _ => 0))
  case atStart =>
    refine ⟨0, 0, w2.heap.size + 1, none, Nat.zero_le _, rfl, rfl, by omega, (fun g h => by cases h), (unhide F3).1, (unhide F3).2.1, World.ownsRow_nil _ _ _ _, (unhide F3).2.2.1, by have := (unhide F3).2.2.2; omega⟩
  case round =>
    obtain ⟨k, c, bi, at_, hk, rfl, rfl, hbi, ho, hR, hJ, hg, hK, hs⟩ := hrel
    have c0 := hJ.ci; have c1 := hJ.cm.cell0
    have HBI := hide hbi; have HO := hide ho; have HR := hide hR; have HJ := hide hJ; have HG := hide hg; have HK := hide hK; have HS := hide hs
    clear hbi ho hR hJ hg hK hs
    by_cases hkn : k < n
    · go_wp2_with fail
      clear c0 c1
      refine (chain_any _ _ _ _ times1_in times2_in n w2.heap.size (rowF n f k) v (TmJ w.heap.size (w.heap.size + 1) bi ba o bb ob n cap cv k f v) (fun t => unhide HF _) (unhide HV) (fun t ht u hu => times1_any h6 hkn t ht u hu) (fun t ht u hu => times2_any t ht u hu)
        (fun u u' hu kk => hu.kept kk (by have := (unhide F2).2.2.2; omega) (by have := (unhide F2).2.2.2; omega) (by have := unhide HBI; omega) (by have := unhide HBA; have := (unhide F2).2.2.2; omega) (by have := unhide HBB; have := (unhide F2).2.2.2; omega)) _ _ (unhide HR) (unhide HJ) h6).mono ?_
      rintro e w5 ⟨rfl, h5, k5⟩
      have F5 := hide (show RfAt w5 w2.heap.size (anyB (fun i => chB (rowF n f i) v n) (k + 1)) ∧ TmJ w.heap.size (w.heap.size + 1) bi ba o bb ob n cap cv k f v w5 ∧ GrowR w5 (w2.heap.size + 1) at_ k c (fun i => chV (rowF n f i) v n) ∧ Below w.heap.size w w5 ∧ w2.heap.size + 1 ≤ w5.heap.size from by
        have z := (unhide F2).2.2.2
        refine ⟨h5, (unhide HJ).kept k5 (by omega) (by omega) (by have := unhide HBI; omega) (by have := unhide HBA; omega) (by have := unhide HBB; omega), (unhide HG).kept k5 (by omega), below_of_kept (unhide HK) k5 (by omega) (unhide HK).size, Nat.le_trans (unhide HS) k5.size⟩)
      clear h5 k5
      go_wp2_with (at_builtin; refine wpList_append_own _ rfl _ _ 22 rfl (w2.heap.size + 1) 3 i0 (.int .i64 0) 1 8 Try.underlying22 hi0 hz0 hz1 hz2 rfl (by decide) (.slice at_ k c) k (rowL (fun i => chV (rowF n f i) v n) k) rfl (GrowR.below (unhide F5).2.2.1 (al_below w5 _)) ⟨w5.heap.size, 0, none⟩ 1 1 [.int .i64 (chV (rowF n f k) v n)] rfl rfl (one_cells w5 _) (one_one _) (by unfold maxLen; omega) (by omega) (by have := (unhide F5).2.2.2.2; rw [al_size]; omega) ?_)
      intro v' w6 hown hgr hnil
      obtain ⟨ao', c', rfl, hg6⟩ := growR_next (f := fun i => chV (rowF n f i) v n) hown
      have F6 := hide (show RfAt w6 w2.heap.size (anyB (fun i => chB (rowF n f i) v n) (k + 1)) ∧ TmJ w.heap.size (w.heap.size + 1) bi ba o bb ob n cap cv k f v w6 ∧ GrowR w6 (w2.heap.size + 1) ao' (k + 1) c' (fun i => chV (rowF n f i) v n) ∧ Below w.heap.size w w6 ∧ w2.heap.size + 1 ≤ w6.heap.size from by
        obtain ⟨a1, a2, a3, a4, a5⟩ := unhide F5
        have z := (unhide F2).2.2.2
        have ka := al_kept (z := w5.heap.size) w5 (.cells #[.int .i64 (chV (rowF n f k) v n)] 3)
        have kb := al_below w5 (.cells #[.int .i64 (chV (rowF n f k) v n)] 3)
        have hbi5 : bi < w5.heap.size := World.block_lt_of_cell? w5 _ a2.ci
        have hsz := al_size w5 (.cells #[.int .i64 (chV (rowF n f k) v n)] 3)
        obtain ⟨zz, kz, hzz⟩ := grown_kept hgr
        have hz1 : w2.heap.size + 1 ≤ zz ∧ zz ≠ bi := by
          rcases hzz with h | ⟨_, h⟩
          · exact ⟨(World.ownsRow.lt a3 zz h).1, unhide HO zz h⟩
          · exact ⟨by omega, by omega⟩
        have hba := unhide HBA; have hbb := unhide HBB
        exact ⟨(a1.below kb).kept kz (by omega), (a2.kept ka (by omega) (by omega) (by omega) (by omega) (by omega)).kept kz (by omega) (by omega) (by omega) (by omega) (by omega), hg6, below_of_kept (a4.alloc a4.size _) kz (by omega) (by have := a4.size; omega), by have := kz.size; omega⟩)
      clear hown hgr hnil hg6
      have c0 := (unhide F6).2.1.ci
      go_wp2_with fail
      go_roundw
      case rel =>
        obtain ⟨a1, a2, a3, a4, a5⟩ := unhide F6
        have kb := al_below w6 (.cells #[.int .i64 ((k : Int) + 1)] 3)
        have hc : (w6.alloc (.cells #[.int .i64 ((k : Int) + 1)] 3)).cell? ⟨w6.heap.size, 0, none⟩ = some (.int .i64 ((k + 1 : Nat) : Int)) := by
          have h := heap_alloc_new w6 (.cells #[.int .i64 ((k : Int) + 1)] 3)
          unfold World.cell?; rw [h]; rfl
        exact ⟨k + 1, c', w6.heap.size, ao', by omega, rfl, rfl, by omega, fun g hg => Nat.ne_of_lt (World.ownsRow.lt a3 g hg).2, a1.below kb, ⟨a2.cm.below kb, at_below a2.cw kb, hc, fun j hj => at_below (a2.cf j hj) kb, fun j hj => at_below (a2.cg j hj) kb⟩, a3.below kb, a4.alloc a4.size _, by rw [al_size]; omega⟩
      case measure => simp; omega
    · have hkn2 : k = n := by omega
      subst hkn2
      obtain ⟨r, rfl, hrb, hn⟩ := (unhide HG).nh (unhide H1)
      have cb := (unhide HR).cell0
      have NR := hide hn
      clear hn hrb
      go_wp2_with fail
      go_region
      go_wp2_with fail
      go_ret3
      exact ⟨r, c, rfl, unhide NR, below_drew (unhide HK)⟩

end Go.Proofs.Ytnfejfdekedmhaa
