/- Joined: MatFacS, RefChain, RefFil. -/
import Derived.Test.YthimcecbgpamdaaGreatNear170
import Derived.Test.YthimcecbgpamdaaGreatJoinI
import Derived.Test.YthimcecbgpamdaaGreatNear140
namespace Go.Proofs.YthimcecbgpamdaaGreat

/-- The row i of a matrix. -/
def rowF (n : Nat) (g : Nat → Int) (i : Nat) : Nat → Int := fun k => g (i * n + k)
/-- The factor's columns below j, and the diagonal. -/
def fac (n : Nat) (g : Nat → Int) : Nat → (Nat → Nat → Int) × (Nat → Int)
  | 0 => (fun _ _ => 0, fun _ => 0)
  | j + 1 => (fun a c => if c = j then (if a = j then 4294967296 else divV (rsV (g (a * n + j)) ((fac n g j).1 a) ((fac n g j).1 j) (fac n g j).2 j) (rsV (g (j * n + j)) ((fac n g j).1 j) ((fac n g j).1 j) (fac n g j).2 j)) else (fac n g j).1 a c,
      stF (fac n g j).2 j (rsV (g (j * n + j)) ((fac n g j).1 j) ((fac n g j).1 j) (fac n g j).2 j))
/-- The pivot of column j. -/
def facP (n : Nat) (g : Nat → Int) (j : Nat) : Int := rsV (g (j * n + j)) ((fac n g j).1 j) ((fac n g j).1 j) (fac n g j).2 j
def facPB (n : Nat) (g : Nat → Int) (j : Nat) : Bool := rsB (g (j * n + j)) ((fac n g j).1 j) ((fac n g j).1 j) (fac n g j).2 j
/-- What is left of the number in row a and column j. -/
def facR (n : Nat) (g : Nat → Int) (j a : Nat) : Int := rsV (g (a * n + j)) ((fac n g j).1 a) ((fac n g j).1 j) (fac n g j).2 j
def facRB (n : Nat) (g : Nat → Int) (j a : Nat) : Bool := rsB (g (a * n + j)) ((fac n g j).1 a) ((fac n g j).1 j) (fac n g j).2 j || divB (facR n g j a) (facP n g j)
def facB (n : Nat) (g : Nat → Int) : Nat → Bool
  | 0 => false
  | j + 1 => facB n g j || facPB n g j || anyB (fun t => facRB n g j (j + 1 + t)) (n - (j + 1))
def facOK (n : Nat) (g : Nat → Int) (j : Nat) : Prop := ∀ t, t < j → 0 < facP n g t
/-- The factor as it stands in the matrix, its columns below j done. -/
def facM (n : Nat) (g : Nat → Int) (j a c : Nat) : Int := if c < j ∧ c ≤ a then (fac n g j).1 a c else if a < j ∧ a < c then 0 else g (a * n + c)
def IsM (n : Nat) (g : Nat → Int) (j : Nat) (f : Nat → Int) : Prop := ∀ a c, a < n → c < n → f (a * n + c) = facM n g j a c
/-- .. and of column j the rows below i. -/
def InM (n : Nat) (g : Nat → Int) (j i : Nat) (f : Nat → Int) : Prop := ∀ a c, a < n → c < n → f (a * n + c) = if a < i ∧ c < i then facM n g (j + 1) a c else facM n g j a c

theorem fac_keeps (n : Nat) (g : Nat → Int) {j a c : Nat} (h : c ≠ j) : (fac n g (j + 1)).1 a c = (fac n g j).1 a c := if_neg h
theorem fac_one (n : Nat) (g : Nat → Int) (j : Nat) : (fac n g (j + 1)).1 j j = 4294967296 := by show (if j = j then _ else _) = _; rw [if_pos rfl, if_pos rfl]
theorem fac_new (n : Nat) (g : Nat → Int) {j a : Nat} (h : a ≠ j) : (fac n g (j + 1)).1 a j = divV (facR n g j a) (facP n g j) := by show (if j = j then _ else _) = _; rw [if_pos rfl, if_neg h]; rfl
theorem facD_new (n : Nat) (g : Nat → Int) (j : Nat) : (fac n g (j + 1)).2 = stF (fac n g j).2 j (facP n g j) := rfl
theorem facM_other (n : Nat) (g : Nat → Int) {j a c : Nat} (h : ¬ (a = j ∧ j ≤ c)) (h2 : ¬ (c = j ∧ j ≤ a)) : facM n g (j + 1) a c = facM n g j a c := by
  unfold facM
  by_cases h3 : c < j ∧ c ≤ a
  · rw [if_pos h3, if_pos (by omega), fac_keeps n g (by omega)]
  · rw [if_neg h3, if_neg (by omega)]
    by_cases h4 : a < j ∧ a < c
    · rw [if_pos h4, if_pos (by omega)]
    · rw [if_neg h4, if_neg (by omega)]
theorem isM_start (n : Nat) (g : Nat → Int) : IsM n g 0 g := by
  intro a c _ _
  unfold facM
  rw [if_neg (by omega), if_neg (by omega)]
theorem inM_start {n j : Nat} {g f : Nat → Int} (h : IsM n g j f) (hj : j < n) : InM n g j (j + 1) (stF f (j * n + j) 4294967296) := by
  intro a c ha hc
  by_cases e : a = j ∧ c = j
  · obtain ⟨rfl, rfl⟩ := e
    rw [stF_same, if_pos (by omega)]
    unfold facM
    rw [if_pos (by omega), fac_one]
  · rw [stF_other _ _ (by intro q; exact e (idx_inj hj hc q)), h a c ha hc]
    split
    · rw [facM_other n g (by omega) (by omega)]
    · rfl
theorem inM_step {n j i : Nat} {g f : Nat → Int} (h : InM n g j i f) (hj : j < i) (hi : i < n) : InM n g j (i + 1) (stF (stF f (i * n + j) (divV (facR n g j i) (facP n g j))) (j * n + i) 0) := by
  intro a c ha hc
  by_cases e : a = j ∧ c = i
  · obtain ⟨rfl, rfl⟩ := e
    rw [stF_same, if_pos (by omega)]
    unfold facM
    rw [if_neg (by omega), if_pos (by omega)]
  · rw [stF_other _ _ (by intro q; exact e (idx_inj hi hc q))]
    by_cases e2 : a = i ∧ c = j
    · obtain ⟨rfl, rfl⟩ := e2
      rw [stF_same, if_pos (by omega)]
      unfold facM
      rw [if_pos (by omega), fac_new n g (by omega)]
    · rw [stF_other _ _ (by intro q; exact e2 (idx_inj (by omega) hc q)), h a c ha hc]
      by_cases e3 : a < i ∧ c < i
      · rw [if_pos e3, if_pos (by omega)]
      · rw [if_neg e3]
        split
        · rw [facM_other n g (by omega) (by omega)]
        · rfl
theorem inM_end {n j : Nat} {g f : Nat → Int} (h : InM n g j n f) : IsM n g (j + 1) f := by
  intro a c ha hc
  rw [h a c ha hc, if_pos ⟨ha, hc⟩]
theorem inM_row {n j i a k : Nat} {g f : Nat → Int} (h : InM n g j i f) (ha : a < n) (hja : j ≤ a) (hk : k < j) : rowF n f a k = (fac n g j).1 a k := by
  show f (a * n + k) = _
  rw [h a k ha (by omega)]
  have e : facM n g j a k = (fac n g j).1 a k := by unfold facM; rw [if_pos (by omega)]
  split
  · rw [facM_other n g (by omega) (by omega), e]
  · exact e
theorem isM_row {n j a k : Nat} {g f : Nat → Int} (h : IsM n g j f) (ha : a < n) (hja : j ≤ a) (hk : k < j) : rowF n f a k = (fac n g j).1 a k := by
  show f (a * n + k) = _
  rw [h a k ha (by omega)]
  unfold facM; rw [if_pos (by omega)]
theorem isM_at {n j a : Nat} {g f : Nat → Int} (h : IsM n g j f) (ha : a < n) (hja : j ≤ a) : f (a * n + j) = g (a * n + j) := by
  rw [h a j ha (by omega)]
  unfold facM; rw [if_neg (by omega), if_neg (by omega)]
theorem inM_at {n j i : Nat} {g f : Nat → Int} (h : InM n g j i f) (hi : i < n) (hj : j < i) : f (i * n + j) = g (i * n + j) := by
  rw [h i j hi (by omega), if_neg (by omega)]
  unfold facM; rw [if_neg (by omega), if_neg (by omega)]
theorem facD_R {n : Nat} {g : Nat → Int} (hg : ∀ i, R64 (g i)) : ∀ j i, R64 ((fac n g j).2 i)
  | 0, _ => R64_nought
  | j + 1, i => by
    rw [facD_new]
    exact stF_R (facD_R hg j) (rsV_R _ _ _ (hg _) _) i
theorem facP_R {n : Nat} {g : Nat → Int} (hg : ∀ i, R64 (g i)) (j : Nat) : R64 (facP n g j) := rsV_R _ _ _ (hg _) _
theorem isM_P {n j : Nat} {g f D : Nat → Int} (h : IsM n g j f) (hj : j < n) (hD : ∀ k, k < j → D k = (fac n g j).2 k) : rsV (f (j * n + j)) (rowF n f j) (rowF n f j) D j = facP n g j ∧ rsB (f (j * n + j)) (rowF n f j) (rowF n f j) D j = facPB n g j := by
  rw [isM_at h hj (Nat.le_refl _)]
  exact ⟨rsV_congr (fun k hk => isM_row h hj (Nat.le_refl _) hk) (fun k hk => isM_row h hj (Nat.le_refl _) hk) hD, rsB_congr (fun k hk => isM_row h hj (Nat.le_refl _) hk) (fun k hk => isM_row h hj (Nat.le_refl _) hk) hD⟩
theorem inM_R {n j i : Nat} {g f D : Nat → Int} (h : InM n g j i f) (hi : i < n) (hj : j < i) (hD : ∀ k, k < j → D k = (fac n g j).2 k) : rsV (f (i * n + j)) (rowF n f i) (rowF n f j) D j = facR n g j i ∧ rsB (f (i * n + j)) (rowF n f i) (rowF n f j) D j = rsB (g (i * n + j)) ((fac n g j).1 i) ((fac n g j).1 j) (fac n g j).2 j := by
  rw [inM_at h hi hj]
  exact ⟨rsV_congr (fun k hk => inM_row h hi (by omega) hk) (fun k hk => inM_row h (by omega) (Nat.le_refl _) hk) hD, rsB_congr (fun k hk => inM_row h hi (by omega) hk) (fun k hk => inM_row h (by omega) (Nat.le_refl _) hk) hD⟩

end Go.Proofs.YthimcecbgpamdaaGreat

namespace Go.Proofs.YthimcecbgpamdaaGreat
open Go.RowKit

set_option maxHeartbeats 400000 in
theorem rfDiv_ok (b : Nat) (x : Bool) (a c : Int) (w : World) (ha : R64 a) (hc : R64 c) (h : RfAt w b x) :
    Calls Tryz.prog 118 #[.pointer (some ⟨b, 0, none⟩), .int .i64 a, .int .i64 c] w fun e w' =>
      e = .returned (.int .i64 (divV a c)) ∧ RfAt w' b (x || divB a c) ∧ Kept b w w' := by
  have D : Calls Tryz.prog 145 #[.int .i64 a, .int .i64 c] w fun e w' => e = .returned (.tuple #[.int .i64 (divV a c), .bool (divB a c)]) ∧ Below w.heap.size w w' := by
    by_cases hz : c = 0
    · subst hz; exact (refDiv_zero a w).mono fun e w' h => ⟨h.1, by rw [h.2]; exact Below.refl _ _⟩
    · exact refDiv_any a c ha hc hz w
  have DD := hide D
  have H := hide h
  clear ha hc h D
  go_enter Tryz.func118, Tryz.ntmps118
  go_wp2_with fail
  refine (unhide DD).mono ?_
  rintro e w1 ⟨rfl, k1⟩
  have H1 := hide ((unhide H).below k1); have K1 := hide k1
  clear k1
  go_wp2_with fail
  refine (see_any b x _ _ _ (unhide H1)).mono ?_
  rintro e w2 ⟨rfl, h2, k2⟩
  have H2 := hide h2; have K2 := hide ((Kept.of_below (z := b) (unhide K1)).trans k2 (Or.inl rfl))
  clear h2 k2
  go_wp2_with fail
  go_ret
  exact ⟨rfl, unhide H2, unhide K2⟩

/-- A function of the program is entered. -/
def EntersR (k : Nat) : Prop := ∀ (args : Array Value) (w : World), (callFunc k args).run Tryz.prog w = .ok (.enter k args) w
theorem entersR_of {k : Nat} {fn : Func} (hf : Tryz.prog.funcs[k]? = some fn) (hname : (fn.name == "runtime.NumGoroutine") = false) (hb : fn.body.isSome = true) : EntersR k := by
  intro args w
  obtain ⟨c, hc⟩ := Option.isSome_iff_exists.1 hb
  have h1 : fn.name ≠ "runtime.NumGoroutine" := by simpa using hname
  simp [callFunc, hf, h1, hc]

end Go.Proofs.YthimcecbgpamdaaGreat

namespace Go.Proofs.YthimcecbgpamdaaGreat
open Go.RowKit

theorem rAdd (b : Nat) (x : Bool) (a c : Int) (w : World) (ha : R64 a) (hc : R64 c) (h : RfAt w b x) : Calls Tryz.prog 116 #[.pointer (some ⟨b, 0, none⟩), .int .i64 a, .int .i64 c] w fun e w' =>
    e = .returned (.int .i64 (adV a c)) ∧ RfAt w' b (x || adB a c) ∧ Kept b w w' := rfAdd_ok b x a c w ha hc h
theorem rSub (b : Nat) (x : Bool) (a c : Int) (w : World) (ha : R64 a) (hc : R64 c) (h : RfAt w b x) : Calls Tryz.prog 115 #[.pointer (some ⟨b, 0, none⟩), .int .i64 a, .int .i64 c] w fun e w' =>
    e = .returned (.int .i64 (sbC a c)) ∧ RfAt w' b (x || sbE a c) ∧ Kept b w w' := rfSub_ok b x a c w ha hc h
theorem rMul (b : Nat) (x : Bool) (a c : Int) (w : World) (ha : R64 a) (hc : R64 c) (h : RfAt w b x) : Calls Tryz.prog 117 #[.pointer (some ⟨b, 0, none⟩), .int .i64 a, .int .i64 c] w fun e w' =>
    e = .returned (.int .i64 (muV a c)) ∧ RfAt w' b (x || muB a c) ∧ Kept b w w' := rfMul_ok b x a c w ha hc h

/-- The parameter, the answer's variable, the reckoner. -/
structure RG (w0 : World) (s : St) (x : Bool) (u : World) : Prop where
  src : SAt u w0.heap.size s
  res : SAt u (w0.heap.size + 1) St.nil
  rk : RfAt u (w0.heap.size + 1 + 1) x
  bel : Below w0.heap.size w0 u
theorem RG.kept {w0 u v : World} {s : St} {x y : Bool} (h : RG w0 s x u) (k : Kept (w0.heap.size + 1 + 1) u v) (b : RfAt v (w0.heap.size + 1 + 1) y) : RG w0 s y v :=
  ⟨h.src.kept k (by omega), h.res.kept k (by omega), b, below_of_kept h.bel k (by omega) h.bel.size⟩
theorem RG.below {w0 u v : World} {s : St} {x : Bool} (h : RG w0 s x u) (k : Below u.heap.size u v) : RG w0 s x v :=
  ⟨h.src.below k, h.res.below k, h.rk.below k, h.bel.trans (k.mono h.bel.size)⟩
theorem RG.drew {w0 u : World} {s : St} {x : Bool} (h : RG w0 s x u) : RG w0 s x u.drew := ⟨h.src, h.res, h.rk, below_drew h.bel⟩
theorem rg_start (w : World) (s : St) : ∃ v, v = ((w.alloc (.cells #[.int .i64 s.X, .int .i64 s.V, .int .i64 s.P00, .int .i64 s.P01, .int .i64 s.P11, .bool s.B, .int .i64 s.M] 25)).alloc (.cells #[.int .i64 0, .int .i64 0, .int .i64 0, .int .i64 0, .int .i64 0, .bool false, .int .i64 0] 25)).alloc (.cells #[.bool s.B] 176) ∧ RG w s s.B v := by
  obtain ⟨w2, e2, h2, g2, k2⟩ := two_state w s
  have z2 : w2.heap.size = w.heap.size + 1 + 1 := by rw [e2, al_size, al_size]
  have h3 := BlAt.new 176 w2 s.B
  rw [z2] at h3
  rw [← e2]
  have k3 := al_below w2 (.cells #[.bool s.B] 176)
  exact ⟨_, rfl, h2.below k3, g2.below k3, h3, k2.trans (k3.mono k2.size)⟩
/-- And the new state's variable. -/
structure RH (w0 : World) (bn : Nat) (s : St) (x : Bool) (n : St) (u : World) : Prop where
  g : RG w0 s x u
  nw : SAt u bn n
  lt : w0.heap.size + 1 + 1 < bn
theorem RH.kept {w0 u v : World} {bn : Nat} {s n : St} {x y : Bool} (h : RH w0 bn s x n u) (k : Kept (w0.heap.size + 1 + 1) u v) (b : RfAt v (w0.heap.size + 1 + 1) y) : RH w0 bn s y n v :=
  ⟨h.g.kept k b, h.nw.kept k (by have := h.lt; omega), h.lt⟩
theorem RH.drew {w0 u : World} {bn : Nat} {s n : St} {x : Bool} (h : RH w0 bn s x n u) : RH w0 bn s x n u.drew := ⟨h.g.drew, h.nw, h.lt⟩
theorem RH.put {w0 u v : World} {bn : Nat} {s n m : St} {x : Bool} (h : RH w0 bn s x n u) (k : Kept bn u v) (b : SAt v bn m) : RH w0 bn s x m v := by
  have := h.lt
  exact ⟨⟨h.g.src.kept k (by omega), h.g.res.kept k (by omega), h.g.rk.kept k (by omega), below_of_kept h.g.bel k (by omega) h.g.bel.size⟩, b, h.lt⟩
theorem rh_start {w0 u : World} {s : St} {x : Bool} (h : RG w0 s x u) : ∃ v, v = u.alloc (.cells #[.int .i64 s.X, .int .i64 s.V, .int .i64 s.P00, .int .i64 s.P01, .int .i64 s.P11, .bool s.B, .int .i64 s.M] 25) ∧ RH w0 u.heap.size s x s v := by
  obtain ⟨v, e, g, k, z⟩ := one_state u s
  exact ⟨v, e, h.below k, g, h.rk.lt⟩

end Go.Proofs.YthimcecbgpamdaaGreat
