/- Contracts: Factor of the reference. -/
import Derived.Test.YtnfejfdekedmhaaRefLeft
namespace Go.Proofs.Ytnfejfdekedmhaa
open Go.RowKit

theorem facD_of (n : Nat) (g : Nat → Int) : ∀ {j i : Nat}, i < j → (fac n g j).2 i = facP n g i
  | 0, _, h => absurd h (by omega)
  | j + 1, i, h => by
    rw [facD_new]
    rcases Nat.lt_or_ge i j with h1 | h1
    · rw [stF_other _ _ (by omega)]; exact facD_of n g h1
    · have : i = j := by omega
      subst this; rw [stF_same]
/-- The factor's columns below j as they stand in the six rows. -/
def FL (n : Nat) (f : Nat → Int) (j : Nat) (L : Nat → Int) : Prop := ∀ a c, a < n → c < n → L (a * 6 + c) = if c < j ∧ c ≤ a then (fac n f j).1 a c else 0
def FI (n : Nat) (f : Nat → Int) (j i : Nat) (L : Nat → Int) : Prop := ∀ a c, a < n → c < n → L (a * 6 + c) = if c < j ∧ c ≤ a then (fac n f j).1 a c else if c = j ∧ j ≤ a ∧ a < i then (fac n f (j + 1)).1 a j else 0
theorem six_inj {a c i k : Nat} (hc : c < 6) (hk : k < 6) (h : a * 6 + c = i * 6 + k) : a = i ∧ c = k := by omega
theorem fl_start (n : Nat) (f : Nat → Int) : FL n f 0 (fun _ => 0) := fun a c _ _ => by rw [if_neg (by omega)]
theorem fi_start {n j : Nat} {f L : Nat → Int} (h6 : n ≤ 6) (h : FL n f j L) (hj : j < n) : FI n f j (j + 1) (stF L (j * 6 + j) 4294967296) := by
  intro a c ha hc
  by_cases e : a = j ∧ c = j
  · obtain ⟨rfl, rfl⟩ := e
    rw [stF_same, if_neg (by omega), if_pos (by omega), fac_one]
  · rw [stF_other _ _ (by intro q; exact e (six_inj (by omega) (by omega) q)), h a c ha hc]
    by_cases e2 : c < j ∧ c ≤ a
    · rw [if_pos e2, if_pos e2]
    · rw [if_neg e2, if_neg e2, if_neg (by omega)]
theorem fi_step {n j i : Nat} {f L : Nat → Int} (h6 : n ≤ 6) (h : FI n f j i L) (hj : j < i) (hi : i < n) : FI n f j (i + 1) (stF L (i * 6 + j) (divV (facR n f j i) (facP n f j))) := by
  intro a c ha hc
  by_cases e : a = i ∧ c = j
  · obtain ⟨rfl, rfl⟩ := e
    rw [stF_same, if_neg (by omega), if_pos (by omega), fac_new n f (by omega)]
  · rw [stF_other _ _ (by intro q; exact e (six_inj (by omega) (by omega) q)), h a c ha hc]
    by_cases e2 : c < j ∧ c ≤ a
    · rw [if_pos e2, if_pos e2]
    · rw [if_neg e2, if_neg e2]
      by_cases e3 : c = j ∧ j ≤ a ∧ a < i
      · rw [if_pos e3, if_pos (by omega)]
      · rw [if_neg e3, if_neg (by omega)]
theorem fi_end {n j : Nat} {f L : Nat → Int} (h : FI n f j n L) : FL n f (j + 1) L := by
  intro a c ha hc
  rw [h a c ha hc]
  by_cases e2 : c < j ∧ c ≤ a
  · rw [if_pos e2, if_pos (by omega), fac_keeps n f (by omega)]
  · rw [if_neg e2]
    by_cases e3 : c = j ∧ j ≤ a ∧ a < n
    · obtain ⟨rfl, h1, h2⟩ := e3
      rw [if_pos ⟨rfl, h1, h2⟩, if_pos (by omega)]
    · rw [if_neg e3, if_neg (by omega)]
theorem fl_P {n j : Nat} {f L : Nat → Int} (h : FL n f j L) (hj : j < n) : rsV (f (j * n + j)) (fun k => L (j * 6 + k)) (fun k => L (j * 6 + k)) (facP n f) j = facP n f j ∧ rsB (f (j * n + j)) (fun k => L (j * 6 + k)) (fun k => L (j * 6 + k)) (facP n f) j = facPB n f j := by
  have e : ∀ k, k < j → L (j * 6 + k) = (fac n f j).1 j k := fun k hk => by rw [h j k hj (by omega), if_pos (by omega)]
  exact ⟨rsV_congr e e (fun k hk => (facD_of n f hk).symm), rsB_congr e e (fun k hk => (facD_of n f hk).symm)⟩
theorem fi_R {n j i : Nat} {f L : Nat → Int} (h : FI n f j i L) (hi : i < n) (hj : j < i) : rsV (f (i * n + j)) (fun k => L (i * 6 + k)) (fun k => L (j * 6 + k)) (facP n f) j = facR n f j i ∧ rsB (f (i * n + j)) (fun k => L (i * 6 + k)) (fun k => L (j * 6 + k)) (facP n f) j = rsB (f (i * n + j)) ((fac n f j).1 i) ((fac n f j).1 j) (fac n f j).2 j := by
  have e1 : ∀ k, k < j → L (i * 6 + k) = (fac n f j).1 i k := fun k hk => by rw [h i k hi (by omega), if_pos (by omega)]
  have e2 : ∀ k, k < j → L (j * 6 + k) = (fac n f j).1 j k := fun k hk => by rw [h j k (by omega) (by omega), if_pos (by omega)]
  exact ⟨rsV_congr e1 e2 (fun k hk => (facD_of n f hk).symm), rsB_congr e1 e2 (fun k hk => (facD_of n f hk).symm)⟩
theorem fl_M {n : Nat} {f L : Nat → Int} (h : FL n f n L) : IsM n f n (fun p => L (p / n * 6 + p % n)) := by
  intro a c ha hc
  show L ((a * n + c) / n * 6 + (a * n + c) % n) = _
  rw [idx_div hc, idx_mod hc, h a c ha hc]
  unfold facM
  by_cases e : c < n ∧ c ≤ a
  · rw [if_pos e, if_pos e]
  · rw [if_neg e, if_neg e, if_pos (by omega)]
theorem left_in : EntersR 35 := entersR_of Try.func35 (by kernel_rfl) (by kernel_rfl)
/-- All that Factor's loops hold. -/
structure FcJ (w : World) (Z ba o n cap j c : Nat) (at_ : Option Addr) (f L : Nat → Int) (u : World) : Prop where
  lj : LfJ w.heap.size Z (Z + 1 + 1) (Z + 1 + 1 + 1) (Z + 1 + 1 + 1 + 1) (Z + 1) ba o n cap (Z + 1 + 1 + 1 + 1 + 1) j c at_ f L (facP n f) u
  rl : ∀ t, R64 (L t)
  mr : MbAt u (w.heap.size + 1) 0 (.slice none 0 0)
  dv : u.heap[Z + 1 + 1 + 1 + 1]? = some (.cells #[.slice at_ j c] 22 (0, 0))
  bel : Below w.heap.size w u
  sz : Z + 1 + 1 + 1 + 1 + 1 ≤ u.heap.size
theorem FcJ.kept {w : World} {z Z ba o n cap j c : Nat} {at_ : Option Addr} {f L : Nat → Int} {u u' : World} (h : FcJ w Z ba o n cap j c at_ f L u) (k : Kept z u u') (hz : z = Z + 1) (hZ : w.heap.size + 1 + 1 ≤ Z) (hb : ba < w.heap.size) : FcJ w Z ba o n cap j c at_ f L u' := by
  subst hz
  exact ⟨h.lj.kept k (by omega) (by omega) (by omega) (by omega) (by omega) (by omega) (by omega), h.rl, h.mr.kept k (by omega), (k.block _ (by have := h.sz; omega) (by omega)).trans h.dv, below_of_kept h.bel k (by omega) h.bel.size, Nat.le_trans h.sz k.size⟩
theorem FcJ.setL {w : World} {Z ba o n cap j c : Nat} {at_ : Option Addr} {f L : Nat → Int} {u : World} (h : FcJ w Z ba o n cap j c at_ f L u) (p : Nat) {x : Int} (hx : R64 x) (hZ : w.heap.size + 1 + 1 ≤ Z) (hb : ba < w.heap.size) : FcJ w Z ba o n cap j c at_ f (stF L p x) (u.setCell ⟨Z + 1 + 1 + 1, p, none⟩ (.int .i64 x)) := by
  have k := kept_set u (Z + 1 + 1 + 1) p (.int .i64 x)
  exact ⟨⟨h.lj.cm.kept k (by omega), at_kept h.lj.cn k (by show Z ≠ _; omega), at_kept h.lj.cr k (by show Z + 1 + 1 ≠ _; omega), h.lj.cl.set p x, at_kept h.lj.cd k (by show Z + 1 + 1 + 1 + 1 ≠ _; omega), h.lj.dd.kept k (by omega), fun t ht => at_kept (h.lj.cf t ht) k (by show ba ≠ _; omega)⟩, stF_R h.rl hx, h.mr.kept k (by omega), (k.block _ (by have := h.sz; omega) (by omega)).trans h.dv, below_of_kept h.bel k (by omega) h.bel.size, Nat.le_trans h.sz k.size⟩
/-- The diagonal has one number more. -/
theorem FcJ.push {w : World} {Z ba o n cap j c c' : Nat} {at_ ao' : Option Addr} {f L : Nat → Int} {u u1 u2 : World} {x : Int} (h : FcJ w Z ba o n cap j c at_ f L u) (e1 : u1 = u.alloc (.cells #[.int .i64 x] 3)) (hg : u1.grownBy u2 (Value.ownBlock (.slice at_ j c))) (hn : GrowR u2 (Z + 1 + 1 + 1 + 1 + 1) ao' (j + 1) c' (facP n f)) (hZ : w.heap.size + 1 + 1 ≤ Z) (hb : ba < w.heap.size) :
    u2.cell? ⟨Z + 1 + 1 + 1 + 1, 0, none⟩ = some (.slice at_ j c) ∧ u2.frozen? ⟨Z + 1 + 1 + 1 + 1, 0, none⟩ = false ∧ FcJ w Z ba o n cap (j + 1) c' ao' f L (u2.setCell ⟨Z + 1 + 1 + 1 + 1, 0, none⟩ (.slice ao' (j + 1) c')) ∧ ∀ x, RfAt u (Z + 1) x → RfAt (u2.setCell ⟨Z + 1 + 1 + 1 + 1, 0, none⟩ (.slice ao' (j + 1) c')) (Z + 1) x := by
  have hs := h.sz
  have s1 : u1.heap.size = u.heap.size + 1 := by rw [e1]; exact al_size _ _
  have k1 : Below u.heap.size u u1 := by rw [e1]; exact al_below _ _
  have d1 : GrowR u1 (Z + 1 + 1 + 1 + 1 + 1) at_ j c (facP n f) := h.lj.dd.below k1
  have k2 : Below (Z + 1 + 1 + 1 + 1 + 1) u1 u2 := grown_below d1 hg (by omega)
  have k3 : Below (Z + 1 + 1 + 1 + 1 + 1) u u2 := (Below.le k1 hs).trans k2
  have dv2 : u2.heap[Z + 1 + 1 + 1 + 1]? = some (.cells #[.slice at_ j c] 22 (0, 0)) := (k3.block _ (by omega)).trans h.dv
  have k4 := kept_set u2 (Z + 1 + 1 + 1 + 1) 0 (.slice ao' (j + 1) c')
  have dv3 : (u2.setCell ⟨Z + 1 + 1 + 1 + 1, 0, none⟩ (.slice ao' (j + 1) c')).heap[Z + 1 + 1 + 1 + 1]? = some (.cells #[.slice ao' (j + 1) c'] 22 (0, 0)) := heap_setCell_same u2 _ 0 _ _ (.slice ao' (j + 1) c') dv2
  have at3 : ∀ {a : Addr} {v : Value}, u.cell? a = some v → a.block < Z + 1 + 1 + 1 + 1 → (u2.setCell ⟨Z + 1 + 1 + 1 + 1, 0, none⟩ (.slice ao' (j + 1) c')).cell? a = some v := fun {a v} ha hl =>
    at_kept ((World.cell?_of_block (k3.block a.block (by omega))).trans ha) k4 (by show a.block ≠ Z + 1 + 1 + 1 + 1; omega)
  refine ⟨by unfold World.cell?; rw [dv2]; rfl, by unfold World.frozen?; rw [dv2]; rfl, ⟨⟨?_, at3 h.lj.cn (by show Z < _; omega), at3 h.lj.cr (by show Z + 1 + 1 < _; omega), ?_, by unfold World.cell?; rw [dv3]; rfl, hn.kept k4 (by omega), fun t ht => at3 (h.lj.cf t ht) (by show ba < _; omega)⟩, h.rl, ?_, dv3, ?_, ?_⟩, ?_⟩
  · exact (h.lj.cm.same (k3.block _ (by omega))).kept k4 (by omega)
  · exact (h.lj.cl.same (k3.block _ (by omega))).kept k4 (by omega)
  · exact (h.mr.same (k3.block _ (by omega))).kept k4 (by omega)
  · exact below_of_kept (h.bel.trans (Below.le k3 (by omega))) k4 (by omega) (by have := h.bel.size; have := k3.size; omega)
  · have := k3.size; have := k4.size; omega
  · intro x hx
    have : RfAt u2 (Z + 1) x := (k3.block _ (by omega)).trans hx
    exact this.kept k4 (by omega)
theorem fac_start (w w2 : World) (n ba o cap : Nat) (f : Nat → Int) (m0 : MbAt w2 w.heap.size (n : Int) (.slice (some ⟨ba, o, none⟩) (n * n) cap)) (mr : MbAt w2 (w.heap.size + 1) 0 (.slice none 0 0)) (k2 : Below w.heap.size w w2) (hc : ∀ i, i < n * n → w.cell? ⟨ba, o + i, none⟩ = some (.int .i64 (f i))) (zz : Array Value) (hz : zz = Array.replicate 36 (.int .i64 0)) :
    RfAt (((((w2.alloc (.cells #[.int .i64 (n : Int)] 3)).alloc (.cells #[.bool false] 48)).alloc (.cells #[.pointer (some ⟨w2.heap.size + 1, 0, none⟩)] 46)).alloc (.cells zz 54)).alloc (.cells #[.slice none 0 0] 22)) (w2.heap.size + 1) false ∧
    FcJ w w2.heap.size ba o n cap 0 0 none f (fun _ => 0) (((((w2.alloc (.cells #[.int .i64 (n : Int)] 3)).alloc (.cells #[.bool false] 48)).alloc (.cells #[.pointer (some ⟨w2.heap.size + 1, 0, none⟩)] 46)).alloc (.cells zz 54)).alloc (.cells #[.slice none 0 0] 22)) := by
  obtain ⟨a1, x1⟩ : ∃ a, a = w2.alloc (.cells #[.int .i64 (n : Int)] 3) := ⟨_, rfl⟩
  obtain ⟨a2, x2⟩ : ∃ a, a = a1.alloc (.cells #[.bool false] 48) := ⟨_, rfl⟩
  obtain ⟨a3, x3⟩ : ∃ a, a = a2.alloc (.cells #[.pointer (some ⟨w2.heap.size + 1, 0, none⟩)] 46) := ⟨_, rfl⟩
  obtain ⟨a4, x4⟩ : ∃ a, a = a3.alloc (.cells zz 54) := ⟨_, rfl⟩
  obtain ⟨a5, x5⟩ : ∃ a, a = a4.alloc (.cells #[.slice none 0 0] 22) := ⟨_, rfl⟩
  rw [← x1, ← x2, ← x3, ← x4, ← x5]
  have s1 : a1.heap.size = w2.heap.size + 1 := by rw [x1]; exact al_size _ _
  have s2 : a2.heap.size = w2.heap.size + 1 + 1 := by rw [x2, al_size, s1]
  have s3 : a3.heap.size = w2.heap.size + 1 + 1 + 1 := by rw [x3, al_size, s2]
  have s4 : a4.heap.size = w2.heap.size + 1 + 1 + 1 + 1 := by rw [x4, al_size, s3]
  have s5 : a5.heap.size = w2.heap.size + 1 + 1 + 1 + 1 + 1 := by rw [x5, al_size, s4]
  have b1 : Below w2.heap.size w2 a1 := by rw [x1]; exact al_below _ _
  have b2 : Below a1.heap.size a1 a2 := by rw [x2]; exact al_below _ _
  have b3 : Below a2.heap.size a2 a3 := by rw [x3]; exact al_below _ _
  have b4 : Below a3.heap.size a3 a4 := by rw [x4]; exact al_below _ _
  have b5 : Below a4.heap.size a4 a5 := by rw [x5]; exact al_below _ _
  have h1 : a1.heap[w2.heap.size]? = some (.cells #[.int .i64 (n : Int)] 3 (0, 0)) := by rw [x1]; exact heap_alloc_new _ _
  have h2 : a2.heap[w2.heap.size + 1]? = some (.cells #[.bool false] 48 (0, 0)) := by rw [← s1, x2]; exact heap_alloc_new _ _
  have h3 : a3.heap[w2.heap.size + 1 + 1]? = some (.cells #[.pointer (some ⟨w2.heap.size + 1, 0, none⟩)] 46 (0, 0)) := by rw [← s2, x3]; exact heap_alloc_new _ _
  have h4 : a4.heap[w2.heap.size + 1 + 1 + 1]? = some (.cells zz 54 (0, 0)) := by rw [← s3, x4]; exact heap_alloc_new _ _
  have h5 : a5.heap[w2.heap.size + 1 + 1 + 1 + 1]? = some (.cells #[.slice none 0 0] 22 (0, 0)) := by rw [← s4, x5]; exact heap_alloc_new _ _
  have t1 : a5.heap[w2.heap.size]? = a1.heap[w2.heap.size]? := ((b5.block _ (by omega)).trans (b4.block _ (by omega))).trans ((b3.block _ (by omega)).trans (b2.block _ (by omega)))
  have t2 : a5.heap[w2.heap.size + 1]? = a2.heap[w2.heap.size + 1]? := ((b5.block _ (by omega)).trans (b4.block _ (by omega))).trans (b3.block _ (by omega))
  have t3 : a5.heap[w2.heap.size + 1 + 1]? = a3.heap[w2.heap.size + 1 + 1]? := (b5.block _ (by omega)).trans (b4.block _ (by omega))
  have t4 : a5.heap[w2.heap.size + 1 + 1 + 1]? = a4.heap[w2.heap.size + 1 + 1 + 1]? := b5.block _ (by omega)
  have bb : Below w2.heap.size w2 a5 := (((b1.trans (Below.le b2 (by omega))).trans (Below.le b3 (by omega))).trans (Below.le b4 (by omega))).trans (Below.le b5 (by omega))
  have kk := k2.trans (Below.le bb k2.size)
  refine ⟨t2.trans h2, ⟨⟨m0.below bb, by unfold World.cell?; rw [t1, h1]; rfl, by unfold World.cell?; rw [t3, h3]; rfl, ⟨zz, t4.trans h4, by rw [hz]; simp, fun i hi => by rw [hz]; simp [hi]⟩, by unfold World.cell?; rw [h5]; rfl, World.ownsRow_nil _ _ _ _, fun k hk => at_below (hc k hk) kk⟩, fun _ => R64_nought, mr.below bb, h5, kk, by omega⟩⟩

theorem rowL_add (F : Nat → Int) (a : Nat) : ∀ b, rowL F (a + b) = rowL F a ++ rowL (fun t => F (a + t)) b
  | 0 => by simp [rowL]
  | b + 1 => by rw [← Nat.add_assoc, rowL_succ, rowL_add F a b, rowL_succ, List.append_assoc]
theorem rowL_congr {F G : Nat → Int} {b : Nat} (h : ∀ t, t < b → F t = G t) : rowL F b = rowL G b := by
  unfold rowL
  exact List.map_congr_left (fun t ht => by rw [h t (by simpa using ht)])
theorem growR_more {w : World} {base a b : Nat} {F G : Nat → Int} {v : Value} (h : w.ownsRow base 3 1 v (a + b) (rowL F a ++ rowL G b)) (hG : ∀ t, t < b → G t = F (a + t)) (hb : 1 ≤ b) : ∃ ao c, v = .slice ao (a + b) c ∧ GrowR w base ao (a + b) c F := by
  have h0 := h
  rw [rowL_congr hG, ← rowL_add] at h0
  rcases h.2 with ⟨_, h1⟩ | ⟨g, cap, cur, rfl, _⟩
  · omega
  · exact ⟨_, _, rfl, h0⟩
def ClF (bt bn : Nat) (vt : Value) (n : Nat) (w : World) : Prop := w.cell? ⟨bt, 1, none⟩ = some vt ∧ w.cell? ⟨bn, 0, none⟩ = some (.int .i64 (n : Int))

end Go.Proofs.Ytnfejfdekedmhaa
