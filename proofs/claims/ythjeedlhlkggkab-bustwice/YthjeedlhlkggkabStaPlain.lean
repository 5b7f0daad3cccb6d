/- A sort that keeps the order of those alike, by halves: plain facts on places and what stands there. No program in sight. -/
import Derived.Test.YthjeedlhlkggkabBusSpec
namespace Go.Proofs.Ythjeedlhlkggkab

/-- A strict order, whole. -/
structure Whole (T : Nat → Nat → Prop) : Prop where
  irr : ∀ x, ¬ T x x
  tr : ∀ x y z, T x y → T y z → T x z
  tot : ∀ x y, T x y ∨ x = y ∨ T y x
/-- Sorted from a to b. -/
def SoT (T : Nat → Nat → Prop) (d : Nat → Nat) (a b : Nat) : Prop := ∀ i j, a ≤ i → i < j → j < b → T (d i) (d j)
/-- The same from a to b in another order, and all else as it was. -/
structure Same (a b : Nat) (d e : Nat → Nat) : Prop where
  out : ∀ x, x < a ∨ b ≤ x → e x = d x
  of : ∀ x, a ≤ x → x < b → ∃ y, a ≤ y ∧ y < b ∧ e x = d y
  to : ∀ y, a ≤ y → y < b → ∃ x, a ≤ x ∧ x < b ∧ d y = e x
section
variable {a b m n s : Nat} {d e f : Nat → Nat} {T : Nat → Nat → Prop}
theorem Same.refl (a b : Nat) (d : Nat → Nat) : Same a b d d := ⟨fun _ _ => rfl, fun x h1 h2 => ⟨x, h1, h2, rfl⟩, fun x h1 h2 => ⟨x, h1, h2, rfl⟩⟩
theorem Same.trans (h : Same a b d e) (k : Same a b e f) : Same a b d f := by
  refine ⟨fun x hx => (k.out x hx).trans (h.out x hx), fun x h1 h2 => ?_, fun y h1 h2 => ?_⟩
  · obtain ⟨y, y1, y2, ey⟩ := k.of x h1 h2
    obtain ⟨z, z1, z2, ez⟩ := h.of y y1 y2
    exact ⟨z, z1, z2, ey.trans ez⟩
  · obtain ⟨x, x1, x2, ex⟩ := h.to y h1 h2
    obtain ⟨z, z1, z2, ez⟩ := k.to x x1 x2
    exact ⟨z, z1, z2, ex.trans ez⟩
theorem Same.wide {a' b' : Nat} (h : Same a b d e) (h1 : a' ≤ a) (h2 : b ≤ b') : Same a' b' d e := by
  refine ⟨fun x hx => h.out x (by omega), fun x x1 x2 => ?_, fun x x1 x2 => ?_⟩
  · by_cases hx : a ≤ x ∧ x < b
    · obtain ⟨y, y1, y2, ey⟩ := h.of x hx.1 hx.2
      exact ⟨y, by omega, by omega, ey⟩
    · exact ⟨x, x1, x2, h.out x (by omega)⟩
  · by_cases hx : a ≤ x ∧ x < b
    · obtain ⟨y, y1, y2, ey⟩ := h.to x hx.1 hx.2
      exact ⟨y, by omega, by omega, ey⟩
    · exact ⟨x, x1, x2, (h.out x (by omega)).symm⟩
/-- Two places exchanged. -/
def swD (d : Nat → Nat) (i j : Nat) (x : Nat) : Nat := if x = i then d j else if x = j then d i else d x
theorem swD_l (d : Nat → Nat) (i j : Nat) : swD d i j i = d j := if_pos rfl
theorem swD_r (d : Nat → Nat) (i j : Nat) : swD d i j j = d i := by unfold swD; split <;> simp_all
theorem swD_o {d : Nat → Nat} {i j x : Nat} (h1 : x ≠ i) (h2 : x ≠ j) : swD d i j x = d x := by unfold swD; rw [if_neg h1, if_neg h2]
theorem same_sw {i j : Nat} (hi : a ≤ i ∧ i < b) (hj : a ≤ j ∧ j < b) : Same a b d (swD d i j) := by
  refine ⟨fun x hx => swD_o (by omega) (by omega), fun x h1 h2 => ?_, fun x h1 h2 => ?_⟩
  · by_cases e1 : x = i
    · subst e1; exact ⟨j, hj.1, hj.2, swD_l ..⟩
    · by_cases e2 : x = j
      · subst e2; exact ⟨i, hi.1, hi.2, swD_r ..⟩
      · exact ⟨x, h1, h2, swD_o e1 e2⟩
  · by_cases e1 : x = i
    · subst e1; exact ⟨j, hj.1, hj.2, (swD_r ..).symm⟩
    · by_cases e2 : x = j
      · subst e2; exact ⟨i, hi.1, hi.2, (swD_l ..).symm⟩
      · exact ⟨x, h1, h2, (swD_o e1 e2).symm⟩
/-- Two parts that lie side by side exchanged: from a to m, from m to b. -/
def rotD (d : Nat → Nat) (a m b : Nat) (x : Nat) : Nat := if a ≤ x ∧ x < a + (b - m) then d (m + (x - a)) else if a + (b - m) ≤ x ∧ x < b then d (x - (b - m)) else d x
theorem rotD_l {x : Nat} (h1 : a ≤ x) (h2 : x < a + (b - m)) : rotD d a m b x = d (m + (x - a)) := if_pos ⟨h1, h2⟩
theorem rotD_r {x : Nat} (h1 : a + (b - m) ≤ x) (h2 : x < b) : rotD d a m b x = d (x - (b - m)) := by unfold rotD; rw [if_neg (by omega), if_pos ⟨h1, h2⟩]
theorem rotD_o {x : Nat} (h1 : x < a ∨ b ≤ x) (h : a ≤ m) (k : m ≤ b) : rotD d a m b x = d x := by unfold rotD; rw [if_neg (by omega), if_neg (by omega)]
theorem same_rot (h : a ≤ m) (k : m ≤ b) : Same a b d (rotD d a m b) := by
  refine ⟨fun x hx => rotD_o hx h k, fun x h1 h2 => ?_, fun y h1 h2 => ?_⟩
  · by_cases e : x < a + (b - m)
    · exact ⟨_, by omega, by omega, rotD_l h1 e⟩
    · exact ⟨_, by omega, by omega, rotD_r (by omega) h2⟩
  · by_cases e : y < m
    · exact ⟨y + (b - m), by omega, by omega, by rw [rotD_r (by omega) (by omega)]; congr 1; omega⟩
    · exact ⟨a + (y - m), by omega, by omega, by rw [rotD_l (by omega) (by omega)]; congr 1; omega⟩
theorem rotD_none (h : a = m ∨ m = b) (h1 : a ≤ m) (h2 : m ≤ b) : rotD d a m b = d := by
  funext x
  rcases h with rfl | rfl
  · by_cases e : a ≤ x ∧ x < b
    · rw [rotD_l e.1 (by omega)]; congr 1; omega
    · exact rotD_o (by omega) h1 h2
  · by_cases e : a ≤ x ∧ x < m
    · rw [rotD_r (by omega) e.2]; congr 1; omega
    · exact rotD_o (by omega) h1 h2
/-- Two parts of one length exchanged, i of them so far. -/
def swR (d : Nat → Nat) (a b i : Nat) (x : Nat) : Nat := if a ≤ x ∧ x < a + i then d (b + (x - a)) else if b ≤ x ∧ x < b + i then d (a + (x - b)) else d x
theorem swR_zero (d : Nat → Nat) (a b : Nat) : swR d a b 0 = d := by funext x; unfold swR; rw [if_neg (by omega), if_neg (by omega)]
theorem swR_succ {i : Nat} (h : a + n ≤ b) (hi : i < n) : swD (swR d a b i) (a + i) (b + i) = swR d a b (i + 1) := by
  funext x
  by_cases e1 : x = a + i
  · subst e1
    rw [swD_l]
    unfold swR
    rw [if_neg (by omega), if_neg (by omega), if_pos (by omega)]
    congr 1; omega
  · by_cases e2 : x = b + i
    · subst e2
      rw [swD_r]
      unfold swR
      rw [if_neg (by omega), if_neg (by omega), if_neg (by omega), if_pos (by omega)]
      congr 1; omega
    · rw [swD_o e1 e2]
      unfold swR
      by_cases c1 : a ≤ x ∧ x < a + i
      · rw [if_pos c1, if_pos (by omega)]
      · rw [if_neg c1, if_neg (show ¬ (a ≤ x ∧ x < a + (i + 1)) by omega)]
        by_cases c2 : b ≤ x ∧ x < b + i
        · rw [if_pos c2, if_pos (by omega)]
        · rw [if_neg c2, if_neg (by omega)]
/-- The longer part ahead: one exchange puts the front in its place. -/
theorem rot_left {i j : Nat} (hi : i ≤ m) (hj : j < i) : rotD (swR d (m - i) m j) (m - (i - j)) m (m + j) = rotD d (m - i) m (m + j) := by
  funext x
  by_cases c0 : x < m - i ∨ m + j ≤ x
  · rw [rotD_o (by omega) (by omega) (by omega), rotD_o c0 (by omega) (by omega)]
    unfold swR; rw [if_neg (by omega), if_neg (by omega)]
  · by_cases c1 : x < m - i + j
    · rw [rotD_o (by omega) (by omega) (by omega), rotD_l (by omega) (by omega)]
      unfold swR; rw [if_pos (by omega)]
    · rw [rotD_r (a := m - i) (by omega) (by omega)]
      by_cases c2 : x < m - (i - j) + j
      · rw [rotD_l (by omega) (by omega)]
        unfold swR; rw [if_neg (by omega), if_pos (by omega)]
        congr 1; omega
      · rw [rotD_r (by omega) (by omega)]
        unfold swR; rw [if_neg (by omega), if_neg (by omega)]
/-- The longer part behind: one exchange puts the end in its place. -/
theorem rot_right {i j : Nat} (hi : i ≤ m) (hj : i < j) : rotD (swR d (m - i) (m + j - i) i) (m - i) m (m + (j - i)) = rotD d (m - i) m (m + j) := by
  funext x
  by_cases c0 : x < m - i ∨ m + j ≤ x
  · rw [rotD_o (by omega) (by omega) (by omega), rotD_o c0 (by omega) (by omega)]
    unfold swR; rw [if_neg (by omega), if_neg (by omega)]
  · by_cases c1 : x < m - i + j
    · rw [rotD_l (b := m + j) (by omega) (by omega)]
      by_cases c2 : x < m - i + (j - i)
      · rw [rotD_l (by omega) (by omega)]
        unfold swR; rw [if_neg (by omega), if_neg (by omega)]
      · rw [rotD_r (by omega) (by omega)]
        unfold swR; rw [if_pos (by omega)]
        congr 1; omega
    · rw [rotD_o (by omega) (by omega) (by omega), rotD_r (by omega) (by omega)]
      unfold swR; rw [if_neg (by omega), if_pos (by omega)]
      congr 1; omega
theorem rot_even {i : Nat} (hi : i ≤ m) : swR d (m - i) m i = rotD d (m - i) m (m + i) := by
  funext x
  by_cases c0 : x < m - i ∨ m + i ≤ x
  · rw [rotD_o c0 (by omega) (by omega)]; unfold swR; rw [if_neg (by omega), if_neg (by omega)]
  · by_cases c1 : x < m
    · rw [rotD_l (by omega) (by omega)]; unfold swR; rw [if_pos (by omega)]
    · rw [rotD_r (by omega) (by omega)]; unfold swR; rw [if_neg (by omega), if_pos (by omega)]; congr 1; omega
/-- One carried to the right, one place a time. -/
theorem rot_one {k : Nat} (h : a ≤ k) : swD (rotD d a (a + 1) (k + 1)) k (k + 1) = rotD d a (a + 1) (k + 2) := by
  funext x
  by_cases e1 : x = k
  · subst e1
    rw [swD_l, rotD_o (by omega) (by omega) (by omega), rotD_l (by omega) (by omega)]
    congr 1; omega
  · by_cases e2 : x = k + 1
    · subst e2
      rw [swD_r, rotD_r (by omega) (by omega), rotD_r (by omega) (by omega)]
      congr 1; omega
    · rw [swD_o e1 e2]
      by_cases c : x < a ∨ k + 2 ≤ x
      · rw [rotD_o (by omega) (by omega) (by omega), rotD_o c (by omega) (by omega)]
      · rw [rotD_l (by omega) (by omega), rotD_l (by omega) (by omega)]
/-- One carried to the left. -/
theorem rot_one' {k : Nat} (h : k < m) : swD (rotD d (k + 1) m (m + 1)) (k + 1) k = rotD d k m (m + 1) := by
  funext x
  by_cases e1 : x = k + 1
  · subst e1
    rw [swD_l, rotD_o (by omega) (by omega) (by omega), rotD_r (by omega) (by omega)]
    congr 1; omega
  · by_cases e2 : x = k
    · subst e2
      rw [swD_r, rotD_l (by omega) (by omega), rotD_l (by omega) (by omega)]
      congr 1; omega
    · rw [swD_o e1 e2]
      by_cases c : x < k ∨ m + 1 ≤ x
      · rw [rotD_o (by omega) (by omega) (by omega), rotD_o c (by omega) (by omega)]
      · rw [rotD_r (by omega) (by omega), rotD_r (by omega) (by omega)]
/-- What a merge starts from. -/
structure Mg (T : Nat → Nat → Prop) (d : Nat → Nat) (a m b : Nat) : Prop where
  l : SoT T d a m
  r : SoT T d m b
  x : ∀ i j, a ≤ i → i < m → m ≤ j → j < b → d i < d j
/-- Put in: the first one among those behind it. -/
theorem mg_first {i : Nat} (h : Mg T d a (a + 1) b) (hi : a + 1 ≤ i) (hb : i ≤ b) (h1 : ∀ x, a + 1 ≤ x → x < i → T (d x) (d a)) (h2 : ∀ x, i ≤ x → x < b → T (d a) (d x)) : Same a b d (rotD d a (a + 1) i) ∧ SoT T (rotD d a (a + 1) i) a b := by
  refine ⟨(same_rot (by omega) hi).wide (Nat.le_refl _) hb, fun x y hx hxy hy => ?_⟩
  have lo : ∀ z, a ≤ z → z < i - 1 → rotD d a (a + 1) i z = d (z + 1) := fun z z1 z2 => by rw [rotD_l z1 (by omega)]; congr 1; omega
  have mi : rotD d a (a + 1) i (i - 1) = d a := by rw [rotD_r (by omega) (by omega)]; congr 1; omega
  have hi' : ∀ z, i ≤ z → rotD d a (a + 1) i z = d z := fun z z1 => rotD_o (by omega) (by omega) hi
  by_cases c1 : y < i - 1
  · rw [lo x hx (by omega), lo y (by omega) c1]; exact h.r _ _ (by omega) (by omega) (by omega)
  · by_cases c2 : y = i - 1
    · subst c2; rw [mi, lo x hx (by omega)]; exact h1 _ (by omega) (by omega)
    · rw [hi' y (by omega)]
      by_cases c3 : x < i - 1
      · rw [lo x hx c3]; exact h.r _ _ (by omega) (by omega) hy
      · by_cases c4 : x = i - 1
        · subst c4; rw [mi]; exact h2 y (by omega) hy
        · rw [hi' x (by omega)]; exact h.r _ _ (by omega) hxy hy
/-- Put in: the last one among those ahead of it. -/
theorem mg_last {i : Nat} (h : Mg T d a m (m + 1)) (hi : a ≤ i) (hm : i ≤ m) (h1 : ∀ x, a ≤ x → x < i → T (d x) (d m)) (h2 : ∀ x, i ≤ x → x < m → T (d m) (d x)) : Same a (m + 1) d (rotD d i m (m + 1)) ∧ SoT T (rotD d i m (m + 1)) a (m + 1) := by
  refine ⟨(same_rot hm (by omega)).wide hi (Nat.le_refl _), fun x y hx hxy hy => ?_⟩
  have lo : ∀ z, z < i → rotD d i m (m + 1) z = d z := fun z z1 => rotD_o (by omega) hm (by omega)
  have mi : rotD d i m (m + 1) i = d m := by rw [rotD_l (by omega) (by omega)]; congr 1; omega
  have hi' : ∀ z, i < z → z < m + 1 → rotD d i m (m + 1) z = d (z - 1) := fun z z1 z2 => by rw [rotD_r (by omega) z2]; congr 1; omega
  by_cases c1 : y < i
  · rw [lo x (by omega), lo y c1]; exact h.l _ _ hx hxy (by omega)
  · by_cases c2 : y = i
    · subst c2; rw [mi, lo x (by omega)]; exact h1 _ hx (by omega)
    · rw [hi' y (by omega) hy]
      by_cases c3 : x < i
      · rw [lo x c3]; exact h.l _ _ hx (by omega) (by omega)
      · by_cases c4 : x = i
        · subst c4; rw [mi]; exact h2 _ (by omega) (by omega)
        · rw [hi' x (by omega) (by omega)]; exact h.l _ _ (by omega) (by omega) (by omega)
/-- Where the search is: all below s go ahead of their mates, none from r on. -/
structure Sch (T : Nat → Nat → Prop) (d : Nat → Nat) (p lo hi s r : Nat) : Prop where
  h1 : lo ≤ s
  h2 : s ≤ r
  h3 : r ≤ hi
  below : ∀ c, lo ≤ c → c < s → T (d c) (d (p - c))
  above : ∀ c, r ≤ c → c < hi → T (d (p - c)) (d c)
theorem Sch.start (h : a ≤ b) (p : Nat) : Sch T d p a b a b := ⟨Nat.le_refl _, h, Nat.le_refl _, fun _ _ _ => by omega, fun _ _ _ => by omega⟩
/-- Where the two halves of the search lie; c is the middle. -/
structure Lies (a m b c lo hi : Nat) : Prop where
  h : (m ≤ c ∧ lo = a ∧ hi = m) ∨ (c < m ∧ lo + b = c + m ∧ hi = c)
  am : a < m
  mb : m < b
  c1 : 2 * c ≤ a + b
  c2 : a + b ≤ 2 * c + 1
theorem Sch.up (W : Whole T) {lo hi s r c x : Nat} (y : Lies a m b c lo hi) (g : Mg T d a m b) (h : Sch T d (c + m - 1) lo hi s r) (hc : s ≤ x) (hr : x < r) (k : T (d x) (d (c + m - 1 - x))) : Sch T d (c + m - 1) lo hi (x + 1) r := by
  obtain ⟨y, am, mb, c1, c2⟩ := y
  obtain ⟨q1, q2, q3, qb, qa⟩ := h
  refine ⟨by omega, by omega, q3, fun z x1 x2 => ?_, qa⟩
  by_cases e : z = x
  · subst e; exact k
  · exact W.tr _ _ _ (g.l z x (by omega) (by omega) (by omega)) (W.tr _ _ _ k (g.r _ _ (by omega) (by omega) (by omega)))
theorem Sch.down (W : Whole T) {lo hi s r c x : Nat} (y : Lies a m b c lo hi) (g : Mg T d a m b) (h : Sch T d (c + m - 1) lo hi s r) (hc : s ≤ x) (hr : x < r) (k : T (d (c + m - 1 - x)) (d x)) : Sch T d (c + m - 1) lo hi s x := by
  obtain ⟨y, am, mb, c1, c2⟩ := y
  obtain ⟨q1, q2, q3, qb, qa⟩ := h
  refine ⟨q1, hc, by omega, qb, fun z x1 x2 => ?_⟩
  by_cases e : z = x
  · subst e; exact k
  · exact W.tr _ _ _ (g.r _ _ (by omega) (by omega) (by omega)) (W.tr _ _ _ k (g.l x z (by omega) (by omega) (by omega)))
/-- Behind the exchange: what is left to be merged, on the left and on the right; and all on the left goes ahead of all on the right. -/
theorem mg_mid (W : Whole T) {lo hi c E : Nat} (y : Lies a m b c lo hi) (g : Mg T d a m b) (h : Sch T d (c + m - 1) lo hi s s) (eE : E + s = c + m) :
    (a ≤ s ∧ s ≤ c ∧ s ≤ m) ∧ (c ≤ E ∧ E ≤ b ∧ m ≤ E) ∧ Mg T (rotD d s m E) a s c ∧ Mg T (rotD d s m E) c E b ∧
    (∀ i j, a ≤ i → i < c → c ≤ j → j < b → T (rotD d s m E i) (rotD d s m E j)) := by
  obtain ⟨y, am, mb, hc1, hc2⟩ := y
  obtain ⟨q1, q2, q3, qb, qa⟩ := h
  have p1 : a ≤ s ∧ s ≤ c ∧ s ≤ m := by omega
  have p2 : c ≤ E ∧ E ≤ b ∧ m ≤ E := by omega
  have v1 : ∀ x, x < s → rotD d s m E x = d x := fun x hx => rotD_o (by omega) (by omega) (by omega)
  have v2 : ∀ x, s ≤ x → x < c → rotD d s m E x = d (m + (x - s)) := fun x h1 h2 => rotD_l h1 (by omega)
  have v3 : ∀ x, c ≤ x → x < E → rotD d s m E x = d (x - (E - m)) := fun x h1 h2 => rotD_r (by omega) h2
  have v4 : ∀ x, E ≤ x → rotD d s m E x = d x := fun x h1 => rotD_o (by omega) (by omega) (by omega)
  have le : ∀ i j, a ≤ i → i ≤ j → j < m → ∀ z, T (d j) z → T (d i) z := fun i j h1 h2 h3 z hz => by
    rcases Nat.lt_or_ge i j with h | h
    · exact W.tr _ _ _ (g.l i j h1 h h3) hz
    · rw [show i = j by omega]; exact hz
  have le' : ∀ i j, a ≤ i → i ≤ j → j < m → ∀ z, T z (d i) → T z (d j) := fun i j h1 h2 h3 z hz => by
    rcases Nat.lt_or_ge i j with h | h
    · exact W.tr _ _ _ hz (g.l i j h1 h h3)
    · rw [show j = i by omega]; exact hz
  have re : ∀ i j, m ≤ i → i ≤ j → j < b → ∀ z, T (d j) z → T (d i) z := fun i j h1 h2 h3 z hz => by
    rcases Nat.lt_or_ge i j with h | h
    · exact W.tr _ _ _ (g.r i j h1 h h3) hz
    · rw [show i = j by omega]; exact hz
  have re' : ∀ i j, m ≤ i → i ≤ j → j < b → ∀ z, T z (d i) → T z (d j) := fun i j h1 h2 h3 z hz => by
    rcases Nat.lt_or_ge i j with h | h
    · exact W.tr _ _ _ hz (g.r i j h1 h h3)
    · rw [show j = i by omega]; exact hz
  refine ⟨p1, p2, ⟨fun i j h1 h2 h3 => ?_, fun i j h1 h2 h3 => ?_, fun i j h1 h2 h3 h4 => ?_⟩, ⟨fun i j h1 h2 h3 => ?_, fun i j h1 h2 h3 => ?_, fun i j h1 h2 h3 h4 => ?_⟩, fun i j h1 h2 h3 h4 => ?_⟩
  · rw [v1 i (by omega), v1 j h3]; exact g.l _ _ h1 h2 (by omega)
  · rw [v2 i h1 (by omega), v2 j (by omega) h3]; exact g.r _ _ (by omega) (by omega) (by omega)
  · rw [v1 i h2, v2 j h3 h4]; exact g.x _ _ h1 (by omega) (by omega) (by omega)
  · rw [v3 i h1 (by omega), v3 j (by omega) h3]; exact g.l _ _ (by omega) (by omega) (by omega)
  · rw [v4 i h1, v4 j (by omega)]; exact g.r _ _ (by omega) h2 h3
  · rw [v3 i h1 h2, v4 j h3]; exact g.x _ _ (by omega) (by omega) (by omega) h4
  · by_cases c1 : i < s
    · rw [v1 i c1]
      by_cases c2 : j < E
      · rw [v3 j h3 c2]; exact g.l _ _ h1 (by omega) (by omega)
      · rw [v4 j (by omega)]
        have k := qb (s - 1) (by omega) (by omega)
        rw [show c + m - 1 - (s - 1) = E by omega] at k
        exact le i (s - 1) h1 (by omega) (by omega) _ (re' E j (by omega) (by omega) h4 _ k)
    · rw [v2 i (by omega) h2]
      by_cases c2 : j < E
      · rw [v3 j h3 c2]
        have k := qa s (Nat.le_refl _) (by omega)
        rw [show c + m - 1 - s = E - 1 by omega] at k
        exact re _ (E - 1) (by omega) (by omega) (by omega) _ (le' s _ (by omega) (by omega) (by omega) _ k)
      · rw [v4 j (by omega)]; exact g.r _ _ (by omega) (by omega) h4
/-- Both halves merged. -/
theorem mg_both {c : Nat} (hac : a ≤ c) (hcb : c ≤ b) (h1 : Same a c d e) (h2 : Same c b e f) (s1 : SoT T e a c) (s2 : SoT T f c b) (x : ∀ i j, a ≤ i → i < c → c ≤ j → j < b → T (d i) (d j)) : Same a b d f ∧ SoT T f a b := by
  refine ⟨(h1.wide (Nat.le_refl _) hcb).trans (h2.wide hac (Nat.le_refl _)), fun i j hi hij hj => ?_⟩
  by_cases c1 : j < c
  · rw [h2.out i (by omega), h2.out j (by omega)]; exact s1 i j hi hij c1
  · by_cases c2 : c ≤ i
    · exact s2 i j c2 hij hj
    · rw [h2.out i (by omega)]
      obtain ⟨u, u1, u2, eu⟩ := h1.of i hi (by omega)
      obtain ⟨v, v1, v2, ev⟩ := h2.of j (by omega) hj
      rw [eu, ev, h1.out v (by omega)]
      exact x u v u1 u2 v1 v2
theorem SoT.none (h : b ≤ a + 1) : SoT T d a b := fun i j _ _ _ => by omega
theorem Mg.one_l (h : Mg T d a m b) (e : a = m ∨ m = b) : SoT T d a b := by
  rcases e with rfl | rfl
  · exact h.r
  · exact h.l
theorem Mg.same (h : Mg T d a m b) (k : Same s n d e) (hs : b ≤ s ∨ n ≤ a) (hm : a ≤ m ∧ m ≤ b) : Mg T e a m b := by
  have o : ∀ x, a ≤ x → x < b → e x = d x := fun x h1 h2 => k.out x (by omega)
  refine ⟨fun i j h1 h2 h3 => ?_, fun i j h1 h2 h3 => ?_, fun i j h1 h2 h3 h4 => ?_⟩
  · by_cases c : j < b
    · rw [o i h1 (by omega), o j (by omega) c]; exact h.l i j h1 h2 h3
    · exact absurd hm (by omega)
  · by_cases c : a ≤ i
    · rw [o i c (by omega), o j (by omega) h3]; exact h.r i j h1 h2 h3
    · exact absurd hm (by omega)
  · rw [o i h1 (by omega), o j (by omega) h4]; exact h.x i j h1 h2 h3 h4
end

end Go.Proofs.Ythjeedlhlkggkab
