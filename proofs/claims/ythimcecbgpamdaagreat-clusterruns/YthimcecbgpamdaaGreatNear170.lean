/- Joined: FixDiv, MatSpec, BigPlain, VecPlain. -/
import Derived.Test.YthimcecbgpamdaaGreatNear98
import Derived.Deep.Draws
import Derived.Test.YthimcecbgpamdaaGreatNear173
import Derived.OwnWalk
import Derived.Below
import Derived.OneCell
namespace Go.Proofs.YthimcecbgpamdaaGreat
open Go.RowKit

set_option maxHeartbeats 400000 in
theorem div64_all (hi lo y : Int) (hi0 : 0 ≤ hi) (lo0 : 0 ≤ lo) (lo1 : lo < 18446744073709551616) (y1 : y < 18446744073709551616) (hy : hi < y) (w : World) :
    Calls Tryz.prog 223 #[.int .u64 hi, .int .u64 lo, .int .u64 y] w fun e w' => ∃ k, e = .returned (.tuple #[.int .u64 ((hi * 18446744073709551616 + lo) / y), .int .u64 ((hi * 18446744073709551616 + lo) % y)]) ∧ w' = w.drewN k := by
  rcases Int.lt_or_le 0 hi with h | h
  · exact (div64_any hi lo y (by omega) lo0 lo1 y1 hy w).mono fun e w' h => ⟨0, h.1, h.2⟩
  · have e0 : hi = 0 := by omega
    subst e0
    have t1 : (y == 0) = false := by simp; omega
    have d0 : 0 ≤ lo / y := Int.ediv_nonneg lo0 (by omega)
    have d1 : lo / y ≤ lo := Int.ediv_le_self _ lo0
    have d2 : 0 ≤ lo % y := Int.emod_nonneg _ (by omega)
    have d3 : lo % y < y := Int.emod_lt_of_pos _ (by omega)
    rw [Int.zero_mul, Int.zero_add]
    go_enter Tryz.func223, Tryz.ntmps223
    go_wp2
    go_region
    go_wp2
    go_ret2
    exact ⟨1, rfl, rfl⟩

/-- A number by nought. -/
def overV (a : Int) : Int := if a = 0 then 0 else endZ (decide (a < 0))

theorem over_any (a : Int) (w : World) :
    Calls Tryz.prog 222 #[.int .i64 a] w fun e w' => e = .returned (.int .i64 (overV a)) ∧ w' = w := by
  by_cases h : a = 0
  · subst h
    go_enter Tryz.func222, Tryz.ntmps222
    go_wp2
    go_ret
    exact ⟨rfl, rfl⟩
  · have E : Hid (overV a = endZ (decide (a < 0))) := if_neg h
    have t : (a == 0) = false := by simpa using h
    clear h
    go_enter Tryz.func222, Tryz.ntmps222
    go_wp2_with fail
    refine (end_any _ _).mono ?_
    rintro e w1 ⟨rfl, rfl⟩
    go_wp2_with fail
    go_ret
    exact ⟨by rw [unhide E]; rfl, rfl⟩

/-- Div's two answers. -/
def divV (a b : Int) : Int := if b = 0 then overV a else clampZ (divQ a b)
def divB (a b : Int) : Bool := if b = 0 then true else bentZ (divQ a b)

theorem div_zero (a : Int) (w : World) :
    Calls Tryz.prog 203 #[.int .i64 a, .int .i64 0] w fun e w' => e = .returned (.tuple #[.int .i64 (divV a 0), .bool (divB a 0)]) ∧ w' = w := by
  go_enter Tryz.func203, Tryz.ntmps203
  go_wp2_with fail
  refine (over_any _ _).mono ?_
  rintro e w1 ⟨rfl, rfl⟩
  go_wp2_with fail
  go_ret2
  exact ⟨rfl, rfl⟩

set_option maxHeartbeats 400000 in
theorem div_any (a b : Int) (ha : R64 a) (hb : R64 b) (w : World) :
    Calls Tryz.prog 203 #[.int .i64 a, .int .i64 b] w fun e w' => ∃ k, e = .returned (.tuple #[.int .i64 (divV a b), .bool (divB a b)]) ∧ w' = w.drewN k := by
  by_cases hz : b = 0
  · subst hz; exact (div_zero a w).mono fun e w' h => ⟨0, h.1, h.2⟩
  have E1 : Hid (divV a b = clampZ (divQ a b)) := if_neg hz
  have E2 : Hid (divB a b = bentZ (divQ a b)) := if_neg hz
  have t : (b == 0) = false := by simpa using hz
  have HQ := hide (divQ_abs a b · · hz)
  have Ha := hide ha; have Hb := hide hb
  obtain ⟨x0, x1⟩ := absZ_bd ha
  obtain ⟨y0, y1⟩ := absZ_bd hb
  have y2 : 1 ≤ absZ b := by unfold absZ; split <;> omega
  obtain ⟨a1, a2⟩ := ha; obtain ⟨b1, b2⟩ := hb
  clear hz
  go_enter Tryz.func203, Tryz.ntmps203
  go_wp2_with fail
  refine (size_any a (unhide Ha) _).mono ?_
  rintro e w1 ⟨rfl, rfl⟩
  go_wp2_with fail
  refine (size_any b (unhide Hb) _).mono ?_
  rintro e w2 ⟨rfl, rfl⟩
  have hn : negZ a b = (!decide (a < 0) == decide (b < 0)) := rfl
  rw [← hn]
  clear hn
  generalize negZ a b = ng at *
  generalize absZ a = n at *
  generalize absZ b = d at *
  by_cases h : d ≤ n / 4294967296
  · have e0 : d * (n * 4294967296 / d) + n * 4294967296 % d = n * 4294967296 := Int.mul_ediv_add_emod _ _
    have r0 : 0 ≤ n * 4294967296 % d := Int.emod_nonneg _ (by omega)
    have r1 : n * 4294967296 % d < d := Int.emod_lt_of_pos _ (by omega)
    have hov := fixdiv_over n d _ _ y2 h e0.symm r1
    have hq := unhide HQ _ _ e0.symm r0 r1
    have hov2 : 9223372036854775808 < roundQ ng (n * 4294967296 / d) (n * 4294967296 % d) d := by unfold roundQ; split <;> omega
    have HO := hide (end_over ng _ hov2)
    rw [← hq] at HO
    clear HQ e0 r0 r1 hov hq hov2
    go_wp2_with fail
    refine (end_any _ _).mono ?_
    rintro e w3 ⟨rfl, rfl⟩
    go_wp2_with fail
    go_ret2
    exact ⟨0, by rw [unhide E1, unhide E2, (unhide HO).1, (unhide HO).2]; rfl, rfl⟩
  · obtain ⟨f1, f2, f3⟩ := fixdiv_words n
    obtain ⟨q, r, eq, er, hqr, r0, r1, q0, q1, q2⟩ := fixdiv_bd n d x0 x1 y2 (by omega)
    have hq := unhide HQ _ _ hqr r0 r1
    clear HQ hqr
    go_wp2_with fail
    refine (div64_all _ _ _ (by omega) f2 f3 (by omega) (by omega) _).mono ?_
    rintro e w3 ⟨k, rfl, rfl⟩
    rw [f1, eq, er]
    clear f1 f2 f3 eq er
    by_cases g : d - r < r ∨ (r = d - r ∧ ng = false)
    · have HQ : Hid (divQ a b = sgnZ ng (q + 1)) := by rw [hq]; unfold roundQ; rw [if_pos g]; exact rfl
      clear hq
      have q3 := q2 (by omega)
      clear q2
      by_cases g1 : d - r < r
      · clear g
        go_wp2_with fail
        refine (stop_any ng _ (by omega) (by omega) _).mono ?_
        rintro e w4 ⟨rfl, rfl⟩
        go_wp2_with fail
        go_ret2
        exact ⟨_, by rw [unhide E1, unhide E2, unhide HQ]; rfl, rfl⟩
      · have g2 : (r == d - r) = true := by simp; omega
        have g3 : ng = false := by rcases g with g | g; exact absurd g g1; exact g.2
        subst g3
        clear g
        go_wp2_with fail
        refine (stop_any false _ (by omega) (by omega) _).mono ?_
        rintro e w4 ⟨rfl, rfl⟩
        go_wp2_with fail
        go_ret2
        exact ⟨_, by rw [unhide E1, unhide E2, unhide HQ]; rfl, rfl⟩
    · have HQ : Hid (divQ a b = sgnZ ng q) := by rw [hq]; unfold roundQ; rw [if_neg g]; exact rfl
      clear hq q2
      have g1 : ¬ d - r < r := fun h => g (Or.inl h)
      by_cases g2 : r = d - r
      · have g3 : ng = true := by cases ng; exact absurd (Or.inr ⟨g2, rfl⟩) g; rfl
        have g4 : (r == d - r) = true := by simpa using g2
        subst g3
        clear g g2
        go_wp2_with fail
        refine (stop_any true _ (by omega) (by omega) _).mono ?_
        rintro e w4 ⟨rfl, rfl⟩
        go_wp2_with fail
        go_ret2
        exact ⟨_, by rw [unhide E1, unhide E2, unhide HQ]; rfl, rfl⟩
      · have g4 : (r == d - r) = false := by simpa using g2
        clear g g2
        go_wp2_with fail
        refine (stop_any ng _ (by omega) (by omega) _).mono ?_
        rintro e w4 ⟨rfl, rfl⟩
        go_wp2_with fail
        go_ret2
        exact ⟨_, by rw [unhide E1, unhide E2, unhide HQ]; rfl, rfl⟩

end Go.Proofs.YthimcecbgpamdaaGreat

namespace Go.Proofs.YthimcecbgpamdaaGreat

/-- One place set. -/
def stF (g : Nat → Int) (k : Nat) (x : Int) : Nat → Int := fun j => if j = k then x else g j
theorem stF_same (g : Nat → Int) (k : Nat) (x : Int) : stF g k x k = x := if_pos rfl
theorem stF_other (g : Nat → Int) {k j : Nat} (x : Int) (h : j ≠ k) : stF g k x j = g j := if_neg h
theorem stF_R {g : Nat → Int} {k : Nat} {x : Int} (h : ∀ i, R64 (g i)) (hx : R64 x) : ∀ i, R64 (stF g k x i) := by
  intro i; unfold stF; split
  · exact hx
  · exact h i

/-- Nought, and product by product. -/
def chV (a b : Nat → Int) : Nat → Int
  | 0 => 0
  | k + 1 => clampZ (chV a b k + clampZ (mulQ (a k) (b k)))
def chB (a b : Nat → Int) : Nat → Bool
  | 0 => false
  | k + 1 => chB a b k || bentZ (mulQ (a k) (b k)) || bentZ (chV a b k + clampZ (mulQ (a k) (b k)))
/-- Is any so? -/
def anyB (f : Nat → Bool) : Nat → Bool
  | 0 => false
  | k + 1 => anyB f k || f k
theorem R64_nought : R64 0 := by unfold R64; omega
theorem chV_R (a b : Nat → Int) : ∀ k, R64 (chV a b k)
  | 0 => R64_nought
  | _ + 1 => clampZ_R _
theorem chV_congr {a b c d : Nat → Int} : ∀ {n : Nat}, (∀ k, k < n → a k = c k) → (∀ k, k < n → b k = d k) → chV a b n = chV c d n
  | 0, _, _ => rfl
  | n + 1, h1, h2 => by
    show clampZ (chV a b n + clampZ (mulQ (a n) (b n))) = clampZ (chV c d n + clampZ (mulQ (c n) (d n)))
    rw [chV_congr (fun k hk => h1 k (by omega)) (fun k hk => h2 k (by omega)), h1 n (by omega), h2 n (by omega)]
theorem chB_congr {a b c d : Nat → Int} : ∀ {n : Nat}, (∀ k, k < n → a k = c k) → (∀ k, k < n → b k = d k) → chB a b n = chB c d n
  | 0, _, _ => rfl
  | n + 1, h1, h2 => by
    show (chB a b n || bentZ (mulQ (a n) (b n)) || bentZ (chV a b n + clampZ (mulQ (a n) (b n)))) = (chB c d n || bentZ (mulQ (c n) (d n)) || bentZ (chV c d n + clampZ (mulQ (c n) (d n))))
    rw [chB_congr (fun k hk => h1 k (by omega)) (fun k hk => h2 k (by omega)), chV_congr (n := n) (fun k hk => h1 k (by omega)) (fun k hk => h2 k (by omega)), h1 n (by omega), h2 n (by omega)]
theorem anyB_congr {f g : Nat → Bool} : ∀ {n : Nat}, (∀ k, k < n → f k = g k) → anyB f n = anyB g n
  | 0, _ => rfl
  | n + 1, h => by
    show (anyB f n || f n) = (anyB g n || g n)
    rw [anyB_congr (fun k hk => h k (by omega)), h n (by omega)]
theorem anyB_iff {f : Nat → Bool} : ∀ {n : Nat}, anyB f n = true ↔ ∃ k, k < n ∧ f k = true
  | 0 => by constructor
            · intro h; cases h
            · rintro ⟨k, hk, _⟩; omega
  | n + 1 => by
    show (anyB f n || f n) = true ↔ _
    rw [Bool.or_eq_true, anyB_iff]
    constructor
    · rintro (⟨k, hk, h⟩ | h)
      · exact ⟨k, by omega, h⟩
      · exact ⟨n, by omega, h⟩
    · rintro ⟨k, hk, h⟩
      rcases Nat.lt_or_ge k n with h1 | h1
      · exact Or.inl ⟨k, h1, h⟩
      · have : k = n := by omega
        subst this; exact Or.inr h

/-- What the columns done so far leave of a number. -/
def rsV (s : Int) (a b d : Nat → Int) : Nat → Int
  | 0 => s
  | k + 1 => clampZ (rsV s a b d k - clampZ (mulQ (clampZ (mulQ (a k) (b k))) (d k)))
def rsB (s : Int) (a b d : Nat → Int) : Nat → Bool
  | 0 => false
  | k + 1 => rsB s a b d k || bentZ (mulQ (a k) (b k)) || bentZ (mulQ (clampZ (mulQ (a k) (b k))) (d k)) || bentZ (rsV s a b d k - clampZ (mulQ (clampZ (mulQ (a k) (b k))) (d k)))
theorem rsV_R {s : Int} (a b d : Nat → Int) (h : R64 s) : ∀ k, R64 (rsV s a b d k)
  | 0 => h
  | _ + 1 => clampZ_R _
theorem rsV_congr {s : Int} {a b d a' b' d' : Nat → Int} : ∀ {n : Nat}, (∀ k, k < n → a k = a' k) → (∀ k, k < n → b k = b' k) → (∀ k, k < n → d k = d' k) → rsV s a b d n = rsV s a' b' d' n
  | 0, _, _, _ => rfl
  | n + 1, h1, h2, h3 => by
    show clampZ (rsV s a b d n - clampZ (mulQ (clampZ (mulQ (a n) (b n))) (d n))) = clampZ (rsV s a' b' d' n - clampZ (mulQ (clampZ (mulQ (a' n) (b' n))) (d' n)))
    rw [rsV_congr (fun k hk => h1 k (by omega)) (fun k hk => h2 k (by omega)) (fun k hk => h3 k (by omega)), h1 n (by omega), h2 n (by omega), h3 n (by omega)]
theorem rsB_congr {s : Int} {a b d a' b' d' : Nat → Int} : ∀ {n : Nat}, (∀ k, k < n → a k = a' k) → (∀ k, k < n → b k = b' k) → (∀ k, k < n → d k = d' k) → rsB s a b d n = rsB s a' b' d' n
  | 0, _, _, _ => rfl
  | n + 1, h1, h2, h3 => by
    show (rsB s a b d n || _ || _ || bentZ (rsV s a b d n - _)) = (rsB s a' b' d' n || _ || _ || bentZ (rsV s a' b' d' n - _))
    rw [rsB_congr (fun k hk => h1 k (by omega)) (fun k hk => h2 k (by omega)) (fun k hk => h3 k (by omega)), rsV_congr (n := n) (fun k hk => h1 k (by omega)) (fun k hk => h2 k (by omega)) (fun k hk => h3 k (by omega)), h1 n (by omega), h2 n (by omega), h3 n (by omega)]

/-- A number less products. -/
def sbV (s : Int) (a y : Nat → Int) : Nat → Int
  | 0 => s
  | k + 1 => clampZ (sbV s a y k - clampZ (mulQ (a k) (y k)))
def sbB (s : Int) (a y : Nat → Int) : Nat → Bool
  | 0 => false
  | k + 1 => sbB s a y k || bentZ (mulQ (a k) (y k)) || bentZ (sbV s a y k - clampZ (mulQ (a k) (y k)))
theorem sbV_R {s : Int} (a y : Nat → Int) (h : R64 s) : ∀ k, R64 (sbV s a y k)
  | 0 => h
  | _ + 1 => clampZ_R _
theorem sbV_congr {s : Int} {a y a' y' : Nat → Int} : ∀ {n : Nat}, (∀ k, k < n → a k = a' k) → (∀ k, k < n → y k = y' k) → sbV s a y n = sbV s a' y' n
  | 0, _, _ => rfl
  | n + 1, h1, h2 => by
    show clampZ (sbV s a y n - clampZ (mulQ (a n) (y n))) = clampZ (sbV s a' y' n - clampZ (mulQ (a' n) (y' n)))
    rw [sbV_congr (fun k hk => h1 k (by omega)) (fun k hk => h2 k (by omega)), h1 n (by omega), h2 n (by omega)]
theorem sbB_congr {s : Int} {a y a' y' : Nat → Int} : ∀ {n : Nat}, (∀ k, k < n → a k = a' k) → (∀ k, k < n → y k = y' k) → sbB s a y n = sbB s a' y' n
  | 0, _, _ => rfl
  | n + 1, h1, h2 => by
    show (sbB s a y n || _ || bentZ (sbV s a y n - _)) = (sbB s a' y' n || _ || bentZ (sbV s a' y' n - _))
    rw [sbB_congr (fun k hk => h1 k (by omega)) (fun k hk => h2 k (by omega)), sbV_congr (n := n) (fun k hk => h1 k (by omega)) (fun k hk => h2 k (by omega)), h1 n (by omega), h2 n (by omega)]

/-- Places of a square: row and column tell the place. -/
theorem idx_lt {n i k : Nat} (hi : i < n) (hk : k < n) : i * n + k < n * n := by
  have := Nat.mul_le_mul_right n (show i + 1 ≤ n from hi)
  rw [Nat.add_mul, Nat.one_mul] at this
  omega
theorem idx_div {n i k : Nat} (hk : k < n) : (i * n + k) / n = i := by
  rw [Nat.mul_comm, Nat.mul_add_div (by omega), Nat.div_eq_of_lt hk]; rfl
theorem idx_mod {n i k : Nat} (hk : k < n) : (i * n + k) % n = k := by
  rw [Nat.mul_comm, Nat.mul_add_mod, Nat.mod_eq_of_lt hk]
theorem idx_inj {n i k a c : Nat} (hk : k < n) (hc : c < n) (h : a * n + c = i * n + k) : a = i ∧ c = k := by grind [idx_div, idx_mod]
theorem idx_of {n p : Nat} (hp : p < n * n) : ∃ a c, a < n ∧ c < n ∧ p = a * n + c := by
  have hn : 0 < n := by rcases Nat.eq_zero_or_pos n with h | h; · subst h; omega
                        · exact h
  refine ⟨p / n, p % n, Nat.div_lt_of_lt_mul hp, Nat.mod_lt _ hn, ?_⟩
  rw [Nat.mul_comm]; exact (Nat.div_add_mod p n).symm
theorem sq_le {n : Nat} (h : n ≤ 6) : n * n ≤ 36 := Nat.mul_le_mul h h

theorem overV_R (a : Int) : R64 (overV a) := by
  unfold R64 overV endZ; repeat' split
  all_goals omega
theorem quot_R (a b : Int) : R64 (divV a b) := by
  unfold divV; split
  · exact overV_R a
  · exact clampZ_R _

end Go.Proofs.YthimcecbgpamdaaGreat

namespace Go.Proofs.YthimcecbgpamdaaGreat
open Go.RowKit

/-- Words. -/
def Wd (n : Nat) (f : Nat → Int) : Prop := ∀ i, i < n → 0 ≤ f i ∧ f i < 4294967296
/-- The first n words as a number. -/
def val (f : Nat → Int) : Nat → Int
  | 0 => 0
  | n + 1 => val f n + f n * 4294967296 ^ n
/-- No nought stands last. -/
def Nm (n : Nat) (f : Nat → Int) : Prop := n = 0 ∨ f (n - 1) ≠ 0

theorem val_congr {f g : Nat → Int} : ∀ {n : Nat}, (∀ i, i < n → f i = g i) → val f n = val g n
  | 0, _ => rfl
  | n + 1, h => by
    show val f n + f n * 4294967296 ^ n = val g n + g n * 4294967296 ^ n
    rw [val_congr (fun i hi => h i (by omega)), h n (by omega)]
theorem pow_pos (n : Nat) : (0 : Int) < 4294967296 ^ n := Int.pow_pos (by decide)
theorem val_bd {f : Nat → Int} : ∀ {n : Nat}, Wd n f → 0 ≤ val f n ∧ val f n < 4294967296 ^ n
  | 0, _ => ⟨Int.le_refl _, (by decide : (0 : Int) < 4294967296 ^ 0)⟩
  | n + 1, h => by
    obtain ⟨h0, h1⟩ := val_bd (fun i hi => h i (by omega) : Wd n f)
    obtain ⟨g0, g1⟩ := h n (by omega)
    have hp := pow_pos n
    have e1 : 0 ≤ f n * 4294967296 ^ n := Int.mul_nonneg g0 (by omega)
    have e2 : (f n + 1) * 4294967296 ^ n ≤ 4294967296 * 4294967296 ^ n := Int.mul_le_mul_of_nonneg_right (by omega) (by omega)
    rw [Int.add_mul, Int.one_mul] at e2
    refine ⟨?_, ?_⟩
    · show 0 ≤ val f n + f n * 4294967296 ^ n; omega
    · show val f n + f n * 4294967296 ^ n < 4294967296 ^ (n + 1)
      rw [Int.pow_succ, Int.mul_comm (4294967296 ^ n)]
      omega
/-- Noughts above do not count. -/
theorem val_noughts {f : Nat → Int} {m : Nat} : ∀ {n : Nat}, m ≤ n → (∀ i, m ≤ i → i < n → f i = 0) → val f n = val f m
  | 0, h, _ => by
    have : m = 0 := by omega
    subst this; rfl
  | n + 1, h, hz => by
    rcases Nat.lt_or_ge n m with hl | hl
    · have : m = n + 1 := by omega
      subst this; rfl
    · show val f n + f n * 4294967296 ^ n = val f m
      rw [val_noughts hl (fun i h1 h2 => hz i h1 (by omega)), hz n hl (by omega)]
      omega
/-- A number without a nought last reaches its own length. -/
theorem val_ge {f : Nat → Int} {n : Nat} (h : Wd (n + 1) f) (hn : f n ≠ 0) : 4294967296 ^ n ≤ val f (n + 1) := by
  have h0 := (val_bd (fun i hi => h i (by omega) : Wd n f)).1
  have g0 := (h n (by omega)).1
  have := Int.mul_le_mul_of_nonneg_right (show 1 ≤ f n by omega) (Int.le_of_lt (pow_pos n))
  show 4294967296 ^ n ≤ val f n + f n * 4294967296 ^ n
  omega

/-- The n words f lie at the head of block b. -/
def Row (w : World) (b n : Nat) (f : Nat → Int) : Prop := ∀ i, i < n → w.cell? ⟨b, i, none⟩ = some (.int .u32 (f i))
/-- A slice value that holds n words. -/
def Sl (w : World) (v : Value) (n : Nat) (f : Nat → Int) : Prop :=
  (v = .slice none 0 0 ∧ n = 0) ∨ ∃ b cap : Nat, v = .slice (some ⟨b, 0, none⟩) n cap ∧ n ≤ cap ∧ cap ≤ 9223372036854775807 ∧ b < w.heap.size ∧ Row w b n f

theorem Row.same {w w' : World} {b n : Nat} {f : Nat → Int} (h : Row w b n f) (hb : w'.heap[b]? = w.heap[b]?) : Row w' b n f :=
  fun i hi => (World.cell?_of_block (w := w) (a := ⟨b, i, none⟩) hb).trans (h i hi)
theorem Row.less {w : World} {b n m : Nat} {f : Nat → Int} (h : Row w b n f) (hm : m ≤ n) : Row w b m f := fun i hi => h i (by omega)
theorem Wd.less {n m : Nat} {f : Nat → Int} (h : Wd n f) (hm : m ≤ n) : Wd m f := fun i hi => h i (by omega)

/-- The world w' has what w had, but for one block at most (and it may have more). -/
structure Kept (z : Nat) (w w' : World) : Prop where
  os : w'.os = w.os
  tape : w'.tape = w.tape
  output : w'.output = w.output
  size : w.heap.size ≤ w'.heap.size
  block : ∀ k, k < w.heap.size → k ≠ z → w'.heap[k]? = w.heap[k]?

theorem Kept.of_below {z : Nat} {w w' : World} (h : Below w.heap.size w w') : Kept z w w' := ⟨h.os, h.tape, h.output, h.size, fun k hk _ => h.block k hk⟩
theorem Kept.below {z : Nat} {w w' : World} (h : Kept z w w') (hz : w.heap.size ≤ z) : Below w.heap.size w w' := ⟨h.os, h.tape, h.output, h.size, fun k hk => h.block k hk (by omega)⟩
theorem Kept.trans {z z' : Nat} {a b c : World} (h : Kept z a b) (k : Kept z' b c) (hz : z' = z ∨ a.heap.size ≤ z') : Kept z a c :=
  ⟨k.os.trans h.os, k.tape.trans h.tape, k.output.trans h.output, Nat.le_trans h.size k.size, fun i hi hn => (k.block i (Nat.lt_of_lt_of_le hi h.size) (by omega)).trans (h.block i hi hn)⟩
theorem Sl.kept {z : Nat} {w w' : World} {v : Value} {n : Nat} {f : Nat → Int} (h : Sl w v n f) (k : Kept z w w') (hz : ∀ b cap, v = .slice (some ⟨b, 0, none⟩) n cap → b ≠ z) : Sl w' v n f := by
  rcases h with h | ⟨b, cap, hv, h1, h2, h3, h4⟩
  · exact Or.inl h
  · exact Or.inr ⟨b, cap, hv, h1, h2, Nat.lt_of_lt_of_le h3 k.size, h4.same (k.block b h3 (hz b cap hv))⟩
theorem Sl.below {w w' : World} {v : Value} {n : Nat} {f : Nat → Int} (h : Sl w v n f) (k : Below w.heap.size w w') : Sl w' v n f := by
  rcases h with h | ⟨b, cap, hv, h1, h2, h3, h4⟩
  · exact Or.inl h
  · exact Or.inr ⟨b, cap, hv, h1, h2, Nat.lt_of_lt_of_le h3 k.size, h4.same (k.block b h3)⟩

end Go.Proofs.YthimcecbgpamdaaGreat

namespace Go.Proofs.YthimcecbgpamdaaGreat
open Go.RowKit

/-- The block b holds one truth value. -/
def BlAt (t : Nat) (w : World) (b : Nat) (x : Bool) : Prop := w.heap[b]? = some (.cells #[.bool x] t (0, 0))
theorem BlAt.cell0 {t : Nat} {w : World} {b : Nat} {x : Bool} (h : BlAt t w b x) : w.cell? ⟨b, 0, none⟩ = some (.bool x) := by
  unfold BlAt at h; simp [World.cell?, h]
theorem BlAt.free {t : Nat} {w : World} {b : Nat} {x : Bool} (h : BlAt t w b x) (i : Nat) : w.frozen? ⟨b, i, none⟩ = false := by
  unfold BlAt at h; simp [World.frozen?, h]
theorem BlAt.lt {t : Nat} {w : World} {b : Nat} {x : Bool} (h : BlAt t w b x) : b < w.heap.size := lt_of_block h
theorem BlAt.kept {t z : Nat} {w w' : World} {b : Nat} {x : Bool} (h : BlAt t w b x) (k : Kept z w w') (hz : b ≠ z) : BlAt t w' b x := by
  unfold BlAt at h ⊢; rw [k.block b (lt_of_block h) hz]; exact h
theorem BlAt.below {t : Nat} {w w' : World} {b : Nat} {x : Bool} (h : BlAt t w b x) (k : Below w.heap.size w w') : BlAt t w' b x := by
  unfold BlAt at h ⊢; rw [k.block b (lt_of_block h)]; exact h
theorem BlAt.set {t : Nat} {w : World} {b : Nat} {x : Bool} (h : BlAt t w b x) (y : Bool) : BlAt t (w.setCell ⟨b, 0, none⟩ (.bool y)) b y := by
  unfold BlAt at h ⊢
  exact heap_setCell_same w b 0 _ _ (.bool y) h
theorem BlAt.new (t : Nat) (w : World) (x : Bool) : BlAt t (w.alloc (.cells #[.bool x] t)) w.heap.size x := by
  unfold BlAt
  show (w.heap.push _)[w.heap.size]? = _
  rw [Array.getElem?_push_size]
theorem kept_refl (z : Nat) (w : World) : Kept z w w := ⟨rfl, rfl, rfl, Nat.le_refl _, fun _ _ _ => rfl⟩
theorem kept_set (w : World) (b i : Nat) (u : Value) : Kept b w (w.setCell ⟨b, i, none⟩ u) :=
  ⟨rfl, rfl, rfl, by simp [World.setCell], fun k _ hn => heap_setCell_other w ⟨b, i, none⟩ k u hn⟩
theorem kept_drew {z : Nat} (w : World) : Kept z w w.drew := ⟨rfl, rfl, rfl, Nat.le_refl _, fun _ _ _ => rfl⟩

theorem below_of_kept {B z : Nat} {a w w' : World} (h : Below B a w) (k : Kept z w w') (hz : B ≤ z) (hB : B ≤ w.heap.size := by first | exact Below.size (by assumption) | omega) : Below B a w' :=
  h.trans ⟨k.os, k.tape, k.output, k.size, fun i hi => k.block i (by omega) (by omega)⟩
theorem below_drew {B : Nat} {a w : World} (h : Below B a w) : Below B a w.drew := ⟨h.os, h.tape, h.output, h.size, h.block⟩
/-- Three numbers as one value. -/
def vecV (x y z : Int) : Value := .agg #[.int .i64 x, .int .i64 y, .int .i64 z]
/-- The block b holds three numbers. -/
def VcAt (w : World) (b : Nat) (x y z : Int) : Prop := w.cell? ⟨b, 0, none⟩ = some (.int .i64 x) ∧ w.cell? ⟨b, 1, none⟩ = some (.int .i64 y) ∧ w.cell? ⟨b, 2, none⟩ = some (.int .i64 z)

end Go.Proofs.YthimcecbgpamdaaGreat
