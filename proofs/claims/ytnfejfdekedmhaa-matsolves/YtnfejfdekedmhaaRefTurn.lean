/- Contracts: Turn of the reference. -/
import Derived.Test.YtnfejfdekedmhaaLawsN1
import Derived.Test.YtnfejfdekedmhaaMatFac
namespace Go.Proofs.Ytnfejfdekedmhaa
open Go.RowKit

/-- A row that grows by append: its first k numbers. -/
def GrowR (w : World) (base : Nat) (ao : Option Addr) (k c : Nat) (f : Nat → Int) : Prop := w.ownsRow base 3 1 (.slice ao k c) k (rowL f k)
theorem rowL_succ (f : Nat → Int) (k : Nat) : rowL f (k + 1) = rowL f k ++ [.int .i64 (f k)] := by
  unfold rowL; rw [List.range_succ, List.map_append]; rfl
theorem growR_next {w : World} {base k : Nat} {f : Nat → Int} {v : Value} (h : w.ownsRow base 3 1 v (k + 1) (rowL f k ++ [.int .i64 (f k)])) : ∃ ao c, v = .slice ao (k + 1) c ∧ GrowR w base ao (k + 1) c f := by
  have h0 := h
  rw [← rowL_succ] at h0
  rcases h.2 with ⟨_, h1⟩ | ⟨g, cap, cur, rfl, _⟩
  · omega
  · exact ⟨_, _, rfl, h0⟩
theorem GrowR.nh {w : World} {base k c : Nat} {ao : Option Addr} {f : Nat → Int} (h : GrowR w base ao k c f) (hk : 1 ≤ k) : ∃ r, ao = some ⟨r, 0, none⟩ ∧ base ≤ r ∧ Nh w r k c f := by
  obtain ⟨r, cap, e, hb, hn⟩ := Nh.of_owns hk h (fun i hi => rowL_at f hi)
  cases e
  exact ⟨r, rfl, hb, hn⟩
theorem grown_below {w w' : World} {base k c : Nat} {ao : Option Addr} {f : Nat → Int} (h : GrowR w base ao k c f) (hg : w.grownBy w' (Value.ownBlock (.slice ao k c))) (hb : base ≤ w.heap.size) : Below base w w' :=
  ⟨hg.os, hg.tape, hg.output, hg.size, fun i hi => hg.block i (by omega) (fun e => by have := (World.ownsRow.lt h i e.symm).1; omega)⟩
theorem GrowR.kept {z : Nat} {w w' : World} {base k c : Nat} {ao : Option Addr} {f : Nat → Int} (h : GrowR w base ao k c f) (q : Kept z w w') (hz : z < base) : GrowR w' base ao k c f := by
  refine World.ownsRow.kept (row := some z) h ⟨q.os, q.tape, q.output, q.size, fun i hi hne => q.block i hi (fun e => hne (by rw [e]))⟩ (Or.inr (fun e => ?_))
  have := (World.ownsRow.lt h z e).1
  omega
theorem GrowR.below {w w' : World} {base k c : Nat} {ao : Option Addr} {f : Nat → Int} (h : GrowR w base ao k c f) (q : Below w.heap.size w w') : GrowR w' base ao k c f := by
  refine World.ownsRow.kept (row := none) h ⟨q.os, q.tape, q.output, q.size, fun i hi _ => q.block i hi⟩ ?_
  cases hv : Value.ownBlock (.slice ao k c)
  · exact Or.inl rfl
  · exact Or.inr (by simp)
theorem cut_idx {n k : Nat} (hk : k < n * n) : k % n * n + k / n < n * n := by
  obtain ⟨a, c, ha, hc, rfl⟩ := idx_of hk
  rw [idx_mod hc, idx_div hc]; exact idx_lt hc ha
/-- Three blocks' cells, and one number. -/
def ClR (b t r p : Nat) (N : Int) (va vt : Value) (x : Int) (w : World) : Prop := w.cell? ⟨b, 0, none⟩ = some (.int .i64 N) ∧ w.cell? ⟨b, 1, none⟩ = some va ∧ w.cell? ⟨t, 1, none⟩ = some vt ∧ w.cell? ⟨r, p, none⟩ = some (.int .i64 x)
theorem ClR.below {b t r p : Nat} {N : Int} {va vt : Value} {x : Int} {w w' : World} {B : Nat} (h : ClR b t r p N va vt x w) (k : Below B w w') (hb : b < B) (ht : t < B) (hr : r < B) : ClR b t r p N va vt x w' :=
  ⟨(World.cell?_of_block (k.block b hb)).trans h.1, (World.cell?_of_block (k.block b hb)).trans h.2.1, (World.cell?_of_block (k.block t ht)).trans h.2.2.1, (World.cell?_of_block (k.block r hr)).trans h.2.2.2⟩

set_option maxRecDepth 100000 in
set_option maxHeartbeats 4000000 in
theorem refTurn_good (n : Nat) (ao : Option Addr) (cap : Nat) (f : Nat → Int) (w : World) (h1 : 1 ≤ n) (h6 : n ≤ 6) (hf : ∀ i, R64 (f i)) (hr : Rds w ao (n * n) f) :
    Calls Try.prog 14 #[.agg #[.int .i64 (n : Int), .slice ao (n * n) cap]] w fun e w' =>
      ∃ (r c : Nat) (g : Nat → Int), e = .returned (.tuple #[.agg #[.int .i64 (n : Int), .slice (some ⟨r, 0, none⟩) (n * n) c], .int .i64 0]) ∧ Nh w' r (n * n) c g ∧ Turned n f g ∧ Below w.heap.size w w' := by
  obtain ⟨i0, hi0, hz0, hz1, hz2⟩ := info_parts infoInt
  obtain ⟨ba, o, rfl, hc⟩ := hr (Nat.mul_le_mul h1 h1)
  have G := hide (goodM_nat h1 h6)
  have HBA := hide (show ba < w.heap.size from World.block_lt_of_cell? w ⟨ba, o + 0, none⟩ (hc 0 (Nat.mul_le_mul h1 h1)))
  have hn0 : ¬ n = 0 := by omega
  obtain ⟨q, hq⟩ : ∃ q, n * n = q := ⟨_, rfl⟩
  have hq36 : q ≤ 36 := by rw [← hq]; exact sq_le h6
  have hq1 : 1 ≤ q := by rw [← hq]; exact Nat.mul_le_mul h1 h1
  have wq : IntKind.i64.wrap ((n : Int) * (n : Int)) = (q : Int) := by rw [wrap_sq h6 h6, hq]
  have HQ := hide hq
  rw [hq] at hc hr G ⊢
  obtain ⟨w1, e1, m0, m1, k1, s1⟩ := mat_two w (n : Int) (.slice (some ⟨ba, o, none⟩) q cap)
  have c0 := m0.cell0; have c1 := m0.cell1
  have E1 := hide e1; have M0 := hide m0; have M1 := hide m1; have K1 := hide k1; have S1 := hide s1; have HF := hide hf; have HC := hide hc
  clear e1 m0 m1 k1 s1 hc hr hf hq
  go_enter Try.func14, Try.ntmps14
  go_wp2_with fail
  rw [← unhide E1]
  go_wp2_with fail
  refine (goodMat_any (n : Int) _ q cap _).mono ?_
  rintro e w2 ⟨rfl, k2⟩
  rw [unhide G]
  have S2 := hide (show w.heap.size + 1 + 1 ≤ w2.heap.size from by have := unhide S1; have := k2.size; omega)
  have K2 := hide (show Below w.heap.size w w2 from (unhide K1).trans (Below.le k2 (by have := unhide S1; omega)))
  have m0 := (unhide M0).below k2
  have M2 := hide ((unhide M1).below k2)
  clear k2 c0 c1
  have c0 := m0.cell0; have c1 := m0.cell1; have cl := m0.lt
  obtain ⟨w3, e3, m3, k3, s3⟩ := mb_alloc w2 (n : Int) (.slice none 0 0)
  have E3 := hide e3; have MM := hide (m0.below k3); have MR := hide ((unhide M2).below k3); have MT := hide m3; have K3 := hide ((unhide K2).trans (Below.le k3 (unhide K2).size)); have S3 := hide s3
  clear m0 e3 m3 k3 s3
  go_wp2_with fail
  rw [← unhide E3]
  clear c0 c1 cl
  go_loopw [5] (fun ks wr => ∃ (k c : Nat) (at_ : Option Addr), ks = .int .i64 k ∧ k ≤ q ∧ MbAt wr w.heap.size (n : Int) (.slice (some ⟨ba, o, none⟩) q cap) ∧ MbAt wr (w.heap.size + 1) 0 (.slice none 0 0) ∧ MbAt wr w2.heap.size (n : Int) (.slice at_ k c) ∧ GrowR wr (w2.heap.size + 1) at_ k c (fun i => f (i % n * n + i / n)) ∧ w2.heap.size + 1 ≤ wr.heap.size ∧ Below w.heap.size w wr)
    (fun ks _ => q - (intOf ks).toNat)
  case atStart => exact ⟨0, 0, none, rfl, Nat.zero_le _, unhide MM, unhide MR, unhide MT, World.ownsRow_nil _ _ _ _, Nat.le_of_eq (unhide S3).symm, unhide K3⟩
  case round =>
    obtain ⟨k, c, at_, rfl, hk, m0, mr, mt, hg, hs, hK⟩ := hrel
    have c0 := m0.cell0
    have A0 := hide m0; have AR := hide mr; have AT := hide mt; have HG := hide hg; have HS := hide hs; have HK := hide hK
    clear m0 mr mt hg hs hK
    by_cases hkq : k < q
    · rename World => wr
      have hmod : (k : Int).tmod (n : Int) = ((k % n : Nat) : Int) := rfl
      have hdiv : (k : Int).tdiv (n : Int) = ((k / n : Nat) : Int) := rfl
      have hcut := cut_idx (n := n) (k := k) (by rw [unhide HQ]; exact hkq)
      rw [unhide HQ] at hcut
      obtain ⟨am, eam⟩ : ∃ am, k % n = am := ⟨_, rfl⟩
      obtain ⟨ad, ead⟩ : ∃ ad, k / n = ad := ⟨_, rfl⟩
      have wp := wrap_sq (n := n) (i := am) h6 (by have := Nat.mod_lt k (show 0 < n by omega); omega)
      rw [eam, ead] at hcut
      rw [eam] at hmod
      rw [ead] at hdiv
      obtain ⟨p, ep⟩ : ∃ p, am * n = p := ⟨_, rfl⟩
      rw [ep] at wp hcut
      obtain ⟨s, es⟩ : ∃ s, p + ad = s := ⟨_, rfl⟩
      have wi : IntKind.i64.wrap ((p : Int) + (ad : Int)) = (s : Int) := by rw [IntKind.wrap_i64]; omega
      rw [es] at hcut
      have wd : IntKind.i64.wrap (ad : Int) = (ad : Int) := by rw [IntKind.wrap_i64]; omega
      have EX := hide (show f s = f (k % n * n + k / n) by rw [eam, ead, ep, es])
      have hS : ClR w.heap.size w2.heap.size ba (o + s) (n : Int) (.slice (some ⟨ba, o, none⟩) q cap) (.slice at_ k c) (f s) wr.drew :=
        ⟨(unhide A0).cell0, (unhide A0).cell1, (unhide AT).cell1, at_below (w' := wr.drew) (unhide HC _ hcut) (below_drew (unhide HK))⟩
      clear eam ead ep es
      go_wp2_with fail
      clear c0
      refine region_by (S := ClR w.heap.size w2.heap.size ba (o + s) (n : Int) (.slice (some ⟨ba, o, none⟩) q cap) (.slice at_ k c) (f s))
        [(0, false), (1, false), (2, false), (3, false), (4, false), (5, false), (6, false), (7, false), (8, false), (9, false), (10, false), (11, false), (12, false), (13, false), (14, false), (15, false), (16, false), (17, false), (18, true), (19, true), (20, false), (21, true)] [21] (by kernel_rfl) (by kernel_rfl) ?_
      iterate 18
        refine seq_read (v := ?_) rfl (fun _ _ _ h => h) (by rfl) hS ?_ ?_
        rotate_left 1
        · intro wx hwx
          obtain ⟨q1, q2, q3, q4⟩ := hwx
          go_simp <;> exact rfl
        go_frame
      refine seq_do rfl (fun K hK => ?_)
      go_simp
      obtain ⟨w5, e5⟩ : ∃ w5, w5 = (wr.alloc (.cells #[.int .i64 (f s)] 3)).drew := ⟨_, rfl⟩
      have e5' : (wr.alloc (.cells #[.int .i64 (f s)] 3)).drew = w5 := e5.symm
      have k5 : Below wr.heap.size wr.drew w5 := by rw [e5]; have h := below_drew (al_below wr (.cells #[.int .i64 (f s)] 3)); exact ⟨h.os, h.tape, h.output, h.size, h.block⟩
      have hB : w2.heap.size + 1 ≤ wr.heap.size := unhide HS
      have hS5 := hS.below k5 (by have := unhide S2; omega) (by omega) (by have := unhide HBA; have := unhide S2; omega)
      have OC := hide (show ∀ (j : Nat) (u : Value), [Value.int .i64 (f s)][j]? = some u → w5.cell? ((⟨wr.heap.size, 0, none⟩ : Addr).add j) = some u by rw [e5]; exact one_cells wr _)
      have G5 := hide (show GrowR w5 (w2.heap.size + 1) at_ k c (fun i => f (i % n * n + i / n)) from GrowR.below (w := wr.drew) (unhide HG) k5)
      have A05 := hide (MbAt.below (w := wr.drew) (unhide A0) k5); have AR5 := hide (MbAt.below (w := wr.drew) (unhide AR) k5); have AT5 := hide (MbAt.below (w := wr.drew) (unhide AT) k5)
      have K5 := hide (show Below w.heap.size w w5 from (below_drew (unhide HK)).trans (Below.le k5 (unhide HK).size))
      have S5 := hide (show wr.heap.size ≤ w5.heap.size from k5.size)
      have hS5' : ClR w.heap.size w2.heap.size ba (o + s) (n : Int) (.slice (some ⟨ba, o, none⟩) q cap) (.slice at_ k c) (f s) ((wr.alloc (.cells #[.int .i64 (f s)] 3)).drew) := by rw [e5']; exact hS5
      refine hK _ _ (fun _ => hS5') ?_
      rw [e5']
      clear hS5'
      clear hK K hS k5 e5 e5'
      refine seq_do rfl (fun K hK => ?_)
      rw [if_pos (by rfl)]
      refine wp_append_own (P := Try.prog) _ (.tmp 23) (.tmp 40) 22 rfl (w2.heap.size + 1) 3 i0 (.int .i64 0) 1 8 Try.underlying22 hi0 hz0 hz1 hz2 rfl (by decide) (.slice at_ k c) k (rowL (fun i => f (i % n * n + i / n)) k) rfl (unhide G5) ⟨wr.heap.size, 0, none⟩ 1 1 [.int .i64 (f s)] rfl rfl (unhide OC) (one_one _) (by unfold maxLen; omega) (by omega) (by have := unhide S5; omega) ?_
      intro v' w6 hown hgr hnil
      rw [unhide EX] at hown
      obtain ⟨ao', c', rfl, hg6⟩ := growR_next hown
      have k6 := grown_below (unhide G5) hgr (by have := unhide S5; omega)
      have hS6 := hS5.below k6 (by have := unhide S2; omega) (by omega) (by have := unhide HBA; have := unhide S2; omega)
      refine hK _ _ (fun _ => hS6) ?_
      have G6 := hide hg6
      have A06 := hide ((unhide A05).same (k6.block _ (by have := unhide S2; omega))); have AR6 := hide ((unhide AR5).same (k6.block _ (by have := unhide S2; omega))); have AT6 := hide ((unhide AT5).same (k6.block _ (by omega)))
      have K6 := hide (show Below w.heap.size w w6 from (unhide K5).trans (Below.le k6 (by have := unhide S2; omega)))
      have S6 := hide (show w2.heap.size + 1 ≤ w6.heap.size from by have := unhide S5; have := k6.size; omega)
      clear hK K hS5 hown hgr hnil hg6 k6
      refine seq_read (v := ?_) rfl (fun _ _ _ h => h) (by rfl) hS6 ?_ ?_
      rotate_left 1
      · intro wx hwx
        clear hwx
        go_simp <;> exact rfl
      go_frame
      clear hS6
      refine seq_do rfl (fun K hK => ?_)
      have t1 := (unhide AT6).cell1; have f1 := (unhide AT6).free 1
      go_simp
      refine hK _ _ (fun h => by cases h) ?_
      clear hK K t1 f1
      refine seq_end ?_
      obtain ⟨w7, e7, m7, k7⟩ := (unhide AT6).put1 (.slice ao' (k + 1) c')
      rw [← e7]
      have F := hide (show MbAt w7 w.heap.size (n : Int) (.slice (some ⟨ba, o, none⟩) q cap) ∧ MbAt w7 (w.heap.size + 1) 0 (.slice none 0 0) ∧ GrowR w7 (w2.heap.size + 1) ao' (k + 1) c' (fun i => f (i % n * n + i / n)) ∧ w2.heap.size + 1 ≤ w7.heap.size ∧ Below w.heap.size w w7 from
        ⟨(unhide A06).kept k7 (by have := unhide S2; omega), (unhide AR6).kept k7 (by have := unhide S2; omega), (unhide G6).kept k7 (by omega), Nat.le_trans (unhide S6) k7.size, below_of_kept (unhide K6) k7 (by have := unhide S2; omega) (unhide K6).size⟩)
      have M7 := hide m7
      clear e7 m7 k7
      go_wp2_with fail
      go_roundw
      case rel => exact ⟨k + 1, c', ao', by go_num, by omega, (unhide F).1, (unhide F).2.1, unhide M7, (unhide F).2.2.1, (unhide F).2.2.2.1, (unhide F).2.2.2.2⟩
      case measure => simp [intOf] <;> omega
    · have hkq2 : k = q := by omega
      subst hkq2
      obtain ⟨r, rfl, hrb, hn⟩ := (unhide HG).nh hq1
      have NR := hide hn; have HRB := hide hrb
      clear hn hrb
      have t0 := (unhide AT).cell0; have t1 := (unhide AT).cell1; have d0 := (unhide AR).cell0; have d1 := (unhide AR).cell1; have f0 := (unhide AR).free 0; have f1 := (unhide AR).free 1
      go_wp2_with fail
      obtain ⟨w8, e8, m8, k8⟩ := (unhide AR).put (n : Int) (.slice (some ⟨r, 0, none⟩) k c)
      rw [← e8]
      have p0 := m8.cell0; have p1 := m8.cell1
      have F := hide (show Nh w8 r k c (fun i => f (i % n * n + i / n)) ∧ Below w.heap.size w w8 from ⟨(unhide NR).kept k8 (by have := unhide HRB; have := unhide S2; omega), below_of_kept (unhide HK) k8 (by omega) (unhide HK).size⟩)
      clear e8 m8 k8 t0 t1 d0 d1 f0 f1 c0
      go_wp2_with fail
      refine bodyPost_ret (v := .tuple #[.agg #[.int .i64 (n : Int), .slice (some ⟨r, 0, none⟩) k c], .int .i64 0]) (by simp [results, Try.results14, go_sem, p0, p1]) rfl
        ⟨r, c, _, rfl, (unhide F).1, fun a b ha hb => ?_, (unhide F).2⟩
      show f ((a * n + b) % n * n + (a * n + b) / n) = _
      rw [idx_mod hb, idx_div hb]

end Go.Proofs.Ytnfejfdekedmhaa
