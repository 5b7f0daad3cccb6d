/- Contracts: what is left of a number, of the reference's Factor. -/
import Derived.Test.YtnfejfdekedmhaaRefTimes
namespace Go.Proofs.Ytnfejfdekedmhaa
open Go.RowKit

/-- The block of the factor at work: six rows of six. -/
def La (w : World) (b : Nat) (L : Nat → Int) : Prop :=
  ∃ cur : Array Value, w.heap[b]? = some (.cells cur 54 (0, 0)) ∧ cur.size = 36 ∧ ∀ i, i < 36 → cur[i]? = some (.int .i64 (L i))
theorem La.cell {w : World} {b : Nat} {L : Nat → Int} (h : La w b L) {i : Nat} (hi : i < 36) : w.cell? ⟨b, i, none⟩ = some (.int .i64 (L i)) := by
  obtain ⟨c, hb, _, hc⟩ := h
  simp [World.cell?, hb, hc i hi]
theorem La.free {w : World} {b : Nat} {L : Nat → Int} (h : La w b L) (i : Nat) : w.frozen? ⟨b, i, none⟩ = false := by
  obtain ⟨c, hb, _⟩ := h
  simp [World.frozen?, hb]
theorem La.lt {w : World} {b : Nat} {L : Nat → Int} (h : La w b L) : b < w.heap.size := by
  obtain ⟨c, hb, _⟩ := h
  exact lt_of_block hb
theorem La.same {w w' : World} {b : Nat} {L : Nat → Int} (h : La w b L) (e : w'.heap[b]? = w.heap[b]?) : La w' b L := by
  obtain ⟨c, hb, hr⟩ := h
  exact ⟨c, e.trans hb, hr⟩
theorem La.kept {z : Nat} {w w' : World} {b : Nat} {L : Nat → Int} (h : La w b L) (k : Kept z w w') (hz : b ≠ z) : La w' b L := h.same (k.block b h.lt hz)
theorem La.below {w w' : World} {b : Nat} {L : Nat → Int} (h : La w b L) (k : Below w.heap.size w w') : La w' b L := h.same (k.block b h.lt)
theorem La.set {w : World} {b : Nat} {L : Nat → Int} (h : La w b L) (i : Nat) (x : Int) : La (w.setCell ⟨b, i, none⟩ (.int .i64 x)) b (stF L i x) := by
  obtain ⟨c, hb, hn, hc⟩ := h
  refine ⟨c.setIfInBounds i (.int .i64 x), ?_, by simpa using hn, fun j hj => ?_⟩
  · simp [World.setCell, Array.getElem?_modify, hb]
  · rw [Array.getElem?_setIfInBounds]
    by_cases e : j = i
    · subst e
      rw [stF_same]
      simp [hn]; omega
    · rw [if_neg (fun h => e h.symm), stF_other L x e]
      exact hc j hj

/-- What the closure of Factor reads. -/
structure LfJ (bm bn br bl bd bk ba o n cap base m c : Nat) (at_ : Option Addr) (f L D : Nat → Int) (u : World) : Prop where
  cm : MbAt u bm (n : Int) (.slice (some ⟨ba, o, none⟩) (n * n) cap)
  cn : u.cell? ⟨bn, 0, none⟩ = some (.int .i64 (n : Int))
  cr : u.cell? ⟨br, 0, none⟩ = some (.pointer (some ⟨bk, 0, none⟩))
  cl : La u bl L
  cd : u.cell? ⟨bd, 0, none⟩ = some (.slice at_ m c)
  dd : GrowR u base at_ m c D
  cf : ∀ k, k < n * n → u.cell? ⟨ba, o + k, none⟩ = some (.int .i64 (f k))
theorem LfJ.kept {z : Nat} {bm bn br bl bd bk ba o n cap base m c : Nat} {at_ : Option Addr} {f L D : Nat → Int} {u u' : World} (h : LfJ bm bn br bl bd bk ba o n cap base m c at_ f L D u) (k : Kept z u u')
    (h1 : bm ≠ z) (h2 : bn ≠ z) (h3 : br ≠ z) (h4 : bl ≠ z) (h5 : bd ≠ z) (h6 : ba ≠ z) (h7 : z < base) : LfJ bm bn br bl bd bk ba o n cap base m c at_ f L D u' :=
  ⟨h.cm.kept k h1, at_kept h.cn k h2, at_kept h.cr k h3, h.cl.kept k h4, at_kept h.cd k h5, h.dd.kept k h7, fun j hj => at_kept (h.cf j hj) k h6⟩
/-- The cells that a step reads. -/
def ClL (br bl bk i k p q : Nat) (a b : Int) (u : World) : Prop := u.cell? ⟨br, 0, none⟩ = some (.pointer (some ⟨bk, 0, none⟩)) ∧ u.cell? ⟨bl, p, none⟩ = some (.int .i64 a) ∧ u.cell? ⟨bl, q, none⟩ = some (.int .i64 b) ∧ i ≤ i ∧ k ≤ k

def ClD (br bd gd bk k : Nat) (v : Value) (d : Int) (u : World) : Prop := u.cell? ⟨br, 0, none⟩ = some (.pointer (some ⟨bk, 0, none⟩)) ∧ u.cell? ⟨bd, 0, none⟩ = some v ∧ u.cell? ⟨gd, k, none⟩ = some (.int .i64 d)

set_option maxRecDepth 100000 in
set_option maxHeartbeats 4000000 in
theorem left_any (bm bn br bl bd bk ba o n cap base m c i j : Nat) (at_ : Option Addr) (f L D : Nat → Int) (x : Bool) (w : World) (h6 : n ≤ 6) (hi : i < n) (hj : j < n) (hm : j ≤ m)
    (rf : ∀ t, R64 (f t)) (rl : ∀ t, R64 (L t)) (rd : ∀ t, R64 (D t)) (ne : bm ≠ bk ∧ bn ≠ bk ∧ br ≠ bk ∧ bl ≠ bk ∧ bd ≠ bk ∧ ba ≠ bk ∧ bk < base)
    (hJ : LfJ bm bn br bl bd bk ba o n cap base m c at_ f L D w) (h : RfAt w bk x) :
    Calls Try.prog 35 (#[.int .i64 (i : Int), .int .i64 (j : Int)] ++ #[.pointer (some ⟨bm, 0, none⟩), .pointer (some ⟨bn, 0, none⟩), .pointer (some ⟨br, 0, none⟩), .pointer (some ⟨bl, 0, none⟩), .pointer (some ⟨bd, 0, none⟩)]) w fun e w' =>
      e = .returned (.int .i64 (rsV (f (i * n + j)) (fun k => L (i * 6 + k)) (fun k => L (j * 6 + k)) D j)) ∧ RfAt w' bk (x || rsB (f (i * n + j)) (fun k => L (i * 6 + k)) (fun k => L (j * 6 + k)) D j) ∧ Kept bk w w' := by
  have hlt := idx_lt hi hj
  have hq36 := sq_le h6
  have c1 := hJ.cm.cell1; have cn := hJ.cn; have cz := hJ.cf _ hlt
  have wp := wrap_sq h6 (show i ≤ 6 by omega)
  obtain ⟨p, ep⟩ : ∃ p, i * n = p := ⟨_, rfl⟩
  obtain ⟨q, eq⟩ : ∃ q, n * n = q := ⟨_, rfl⟩
  obtain ⟨s, es⟩ : ∃ s, p + j = s := ⟨_, rfl⟩
  rw [ep] at wp hlt cz ⊢
  rw [eq] at hlt c1 hq36
  rw [es] at hlt cz ⊢
  have ws : IntKind.i64.wrap ((p : Int) + (j : Int)) = (s : Int) := by rw [IntKind.wrap_i64]; omega
  have JJ := hide hJ; have H := hide h; have RF := hide rf; have RL := hide rl; have RD := hide rd; have NE := hide ne
  clear hJ h rf rl rd ne ep eq es
  simp only [List.append_toArray, List.cons_append, List.nil_append]
  go_enter Try.func35, Try.ntmps35
  go_wp2_with fail
  clear c1 cn cz wp ws
  go_loopw [10, 11, 12] (fun ss ks _ wr => ∃ k : Nat, ks = .int .i64 k ∧ k ≤ j ∧ ss = .int .i64 (rsV (f s) (fun k => L (i * 6 + k)) (fun k => L (j * 6 + k)) D k) ∧ RfAt wr bk (x || rsB (f s) (fun k => L (i * 6 + k)) (fun k => L (j * 6 + k)) D k) ∧ Kept bk w wr)
    (fun _ ks _ _ => j - (intOf ks).toNat)
  case atStart =>
    refine ⟨0, rfl, Nat.zero_le _, rfl, ?_, kept_refl _ _⟩
    show RfAt w bk (x || false)
    rw [Bool.or_false]; exact unhide H
  case round =>
    obtain ⟨k, rfl, hk, rfl, hR, hK⟩ := hrel
    have HR := hide hR; have HK := hide hK
    clear hR hK
    rename World => wr
    obtain ⟨sv, es⟩ : ∃ sv, rsV (f s) (fun k => L (i * 6 + k)) (fun k => L (j * 6 + k)) D k = sv := ⟨_, rfl⟩
    have RS := hide (show R64 sv by rw [← es]; exact rsV_R _ _ _ (unhide RF _) _)
    rw [es]
    have ES := hide es
    clear es
    by_cases hkj : k < j
    · have J1 := hide (show LfJ bm bn br bl bd bk ba o n cap base m c at_ f L D wr from by
        obtain ⟨n1, n2, n3, n4, n5, n6, n7⟩ := unhide NE
        exact (unhide JJ).kept (unhide HK) n1 n2 n3 n4 n5 n6 n7)
      have hS : ClL br bl bk i k (i * 6 + k) (j * 6 + k) (L (i * 6 + k)) (L (j * 6 + k)) wr.drew := ⟨(unhide J1).cr, (unhide J1).cl.cell (by omega), (unhide J1).cl.cell (by omega), Nat.le_refl _, Nat.le_refl _⟩
      have hi6 : (i : Int) < 6 := by omega
      have hj6 : (j : Int) < 6 := by omega
      have hk6 : (k : Int) < 6 := by omega
      go_wp2_with fail
      refine region_by (S := ClL br bl bk i k (i * 6 + k) (j * 6 + k) (L (i * 6 + k)) (L (j * 6 + k)))
        [(0, false), (1, false), (2, false), (3, false), (4, false), (5, false), (6, false), (7, false), (8, false), (9, false), (10, false), (11, true), (12, true)] [] (by kernel_rfl) (by kernel_rfl) ?_
      iterate 11
        refine seq_read (v := ?_) rfl (fun _ _ _ h => h) (by rfl) hS ?_ ?_
        rotate_left 1
        · intro wx hwx
          obtain ⟨q1, q2, q3, q4, q5⟩ := hwx
          go_simp <;> exact rfl
        go_frame
      refine seq_do rfl (fun K hK => ?_)
      go_simp
      refine (rfMul_ok bk _ _ _ _ (unhide RL _) (unhide RL _) (show RfAt wr.drew bk _ from unhide HR)).mono ?_
      rintro e w1 ⟨rfl, h1, k1⟩
      have K1 := hide (show Kept bk w w1 from ((unhide HK).trans (kept_drew wr) (Or.inl rfl)).trans k1 (Or.inl rfl)); have R1 := hide h1
      have hS1 : ClL br bl bk i k (i * 6 + k) (j * 6 + k) (L (i * 6 + k)) (L (j * 6 + k)) w1 := by
        obtain ⟨_, _, n3, n4, _⟩ := unhide NE
        exact ⟨at_kept (w := wr.drew) hS.1 k1 n3, at_kept (w := wr.drew) hS.2.1 k1 n4, at_kept (w := wr.drew) hS.2.2.1 k1 n4, hS.2.2.2⟩
      refine hK _ _ (fun _ => hS1) ?_
      clear hK K hS h1 k1 J1
      refine seq_do rfl (fun K hK => ?_)
      go_simp
      refine hK _ _ (fun _ => hS1) ?_
      clear hK K hS1
      refine seq_end ?_
      have J2 := hide (show LfJ bm bn br bl bd bk ba o n cap base m c at_ f L D w1 from by
        obtain ⟨n1, n2, n3, n4, n5, n6, n7⟩ := unhide NE
        exact (unhide JJ).kept (unhide K1) n1 n2 n3 n4 n5 n6 n7)
      obtain ⟨gd, eg, _, nd⟩ := (unhide J2).dd.nh (by omega)
      have hkm : k < m := by omega
      have hS2 : ClD br bd gd bk k (.slice (some ⟨gd, 0, none⟩) m c) (D k) w1.drew := ⟨(unhide J2).cr, by have := (unhide J2).cd; rw [eg] at this; exact this, nd.cell hkm⟩
      have HGD := hide (show gd ≠ bk from by
        obtain ⟨n1, n2, n3, n4, n5, n6, n7⟩ := unhide NE
        rename_i hb
        omega)
      clear eg nd
      go_wp2_with fail
      refine region_by (S := ClD br bd gd bk k (.slice (some ⟨gd, 0, none⟩) m c) (D k))
        [(0, false), (1, false), (2, false), (3, false), (4, false), (5, false), (6, true), (7, true)] [] (by kernel_rfl) (by kernel_rfl) ?_
      iterate 6
        refine seq_read (v := ?_) rfl (fun _ _ _ h => h) (by rfl) hS2 ?_ ?_
        rotate_left 1
        · intro wx hwx
          obtain ⟨q1, q2, q3⟩ := hwx
          go_simp <;> exact rfl
        go_frame
      refine seq_do rfl (fun K hK => ?_)
      go_simp
      refine (rfMul_ok bk _ _ _ _ (clampZ_R _) (unhide RD _) (show RfAt w1.drew bk _ from unhide R1)).mono ?_
      rintro e w2 ⟨rfl, h2, k2⟩
      have K2 := hide (show Kept bk w w2 from ((unhide K1).trans (kept_drew w1) (Or.inl rfl)).trans k2 (Or.inl rfl)); have R2 := hide h2
      have hS3 : ClD br bd gd bk k (.slice (some ⟨gd, 0, none⟩) m c) (D k) w2 := by
        obtain ⟨_, _, n3, _, n5, _⟩ := unhide NE
        exact ⟨at_kept (w := w1.drew) hS2.1 k2 n3, at_kept (w := w1.drew) hS2.2.1 k2 n5, at_kept (w := w1.drew) hS2.2.2 k2 (unhide HGD)⟩
      refine hK _ _ (fun _ => hS3) ?_
      clear hK K hS2 h2 k2
      refine seq_do rfl (fun K hK => ?_)
      go_simp
      refine hK _ _ (fun _ => hS3) ?_
      clear hK K
      refine seq_end ?_
      have cr := hS3.1
      clear hS3
      go_wp2_with fail
      refine (rfSub_ok bk _ _ _ _ (unhide RS) (clampZ_R _) (unhide R2)).mono ?_
      rintro e w3 ⟨rfl, h3, k3⟩
      have K3 := hide ((unhide K2).trans k3 (Or.inl rfl)); have R3 := hide h3
      clear h3 k3 cr
      go_wp2_with fail
      go_roundw
      case rel =>
        refine ⟨k + 1, by go_num, by omega, by rw [← unhide ES]; rfl, ?_, unhide K3⟩
        have hm := unhide R3
        rw [← unhide ES] at hm
        simp only [Bool.or_assoc] at hm
        show RfAt _ bk (x || (rsB (f s) (fun k => L (i * 6 + k)) (fun k => L (j * 6 + k)) D k || _ || _ || _))
        simp only [Bool.or_assoc]
        exact hm
      case measure => simp [intOf] <;> omega
    · have hkj2 : k = j := by omega
      subst hkj2
      go_wp2_with fail
      go_ret
      exact ⟨by rw [unhide ES]; rfl, unhide HR, unhide HK⟩

end Go.Proofs.Ytnfejfdekedmhaa
