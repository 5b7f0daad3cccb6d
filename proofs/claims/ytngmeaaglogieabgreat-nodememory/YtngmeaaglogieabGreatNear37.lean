/- Joined: FixDiv, MatSpec. -/
import Derived.Test.YtngmeaaglogieabGreatNear66
import Derived.Deep.Draws
namespace Go.Proofs.YtngmeaaglogieabGreat
open Go.RowKit

set_option maxHeartbeats 400000 in
theorem div64_all (hi lo y : Int) (hi0 : 0 ≤ hi) (lo0 : 0 ≤ lo) (lo1 : lo < 18446744073709551616) (y1 : y < 18446744073709551616) (hy : hi < y) (w : World) :
    Calls Tryz.prog 105 #[.int .u64 hi, .int .u64 lo, .int .u64 y] w fun e w' => ∃ k, e = .returned (.tuple #[.int .u64 ((hi * 18446744073709551616 + lo) / y), .int .u64 ((hi * 18446744073709551616 + lo) % y)]) ∧ w' = w.drewN k := by
  rcases Int.lt_or_le 0 hi with h | h
  · exact (div64_any hi lo y (by omega) lo0 lo1 y1 hy w).mono fun e w' h => ⟨0, h.1, h.2⟩
  · have e0 : hi = 0 := by omega
    subst e0
    have t1 : (y == 0) = false := by simp; omega
    have d0 : 0 ≤ lo / y := Int.ediv_nonneg lo0 (by omega)
    have d1 : lo / y ≤ lo := Int.ediv_le_self _ lo0
    have d2 : 0 ≤ lo % y := Int.emod_nonneg _ (by omega)
    have d3 : lo % y < y := Int.emod_lt_of_pos _ (by omega)
    rw [Int.zero_mul, Int.zero_add]
    go_enter Tryz.func105, Tryz.ntmps105
    go_wp2
    go_region
    go_wp2
    go_ret2
    exact ⟨1, rfl, rfl⟩

/-- A number by nought. -/
def overV (a : Int) : Int := if a = 0 then 0 else endZ (decide (a < 0))

theorem over_any (a : Int) (w : World) :
    Calls Tryz.prog 104 #[.int .i64 a] w fun e w' => e = .returned (.int .i64 (overV a)) ∧ w' = w := by
  by_cases h : a = 0
  · subst h
    go_enter Tryz.func104, Tryz.ntmps104
    go_wp2
    go_ret
    exact ⟨rfl, rfl⟩
  · have E : Hid (overV a = endZ (decide (a < 0))) := if_neg h
    have t : (a == 0) = false := by simpa using h
    clear h
    go_enter Tryz.func104, Tryz.ntmps104
    go_wp2_with fail
    refine (end_any _ _).mono ?_
    rintro e w1 ⟨rfl, rfl⟩
    go_wp2_with fail
    go_ret
    exact ⟨by rw [unhide E]; rfl, rfl⟩

/-- Div's two answers. -/
def divV (a b : Int) : Int := if b = 0 then overV a else clampZ (divQ a b)
def divB (a b : Int) : Bool := if b = 0 then true else bentZ (divQ a b)

theorem div_zero (a : Int) (w : World) :
    Calls Tryz.prog 92 #[.int .i64 a, .int .i64 0] w fun e w' => e = .returned (.tuple #[.int .i64 (divV a 0), .bool (divB a 0)]) ∧ w' = w := by
  go_enter Tryz.func92, Tryz.ntmps92
  go_wp2_with fail
  refine (over_any _ _).mono ?_
  rintro e w1 ⟨rfl, rfl⟩
  go_wp2_with fail
  go_ret2
  exact ⟨rfl, rfl⟩

set_option maxHeartbeats 400000 in
theorem div_any (a b : Int) (ha : R64 a) (hb : R64 b) (w : World) :
    Calls Tryz.prog 92 #[.int .i64 a, .int .i64 b] w fun e w' => ∃ k, e = .returned (.tuple #[.int .i64 (divV a b), .bool (divB a b)]) ∧ w' = w.drewN k := by
  by_cases hz : b = 0
  · subst hz; exact (div_zero a w).mono fun e w' h => ⟨0, h.1, h.2⟩
  have E1 : Hid (divV a b = clampZ (divQ a b)) := if_neg hz
  have E2 : Hid (divB a b = bentZ (divQ a b)) := if_neg hz
  have t : (b == 0) = false := by simpa using hz
  have HQ := hide (divQ_abs a b · · hz)
  have Ha := hide ha; have Hb := hide hb
  obtain ⟨x0, x1⟩ := absZ_bd ha
  obtain ⟨y0, y1⟩ := absZ_bd hb
  have y2 : 1 ≤ absZ b := by unfold absZ; split <;> omega
  obtain ⟨a1, a2⟩ := ha; obtain ⟨b1, b2⟩ := hb
  clear hz
  go_enter Tryz.func92, Tryz.ntmps92
  go_wp2_with fail
  refine (size_any a (unhide Ha) _).mono ?_
  rintro e w1 ⟨rfl, rfl⟩
  go_wp2_with fail
  refine (size_any b (unhide Hb) _).mono ?_
  rintro e w2 ⟨rfl, rfl⟩
  have hn : negZ a b = (!decide (a < 0) == decide (b < 0)) := rfl
  rw [← hn]
  clear hn
  generalize negZ a b = ng at *
  generalize absZ a = n at *
  generalize absZ b = d at *
  by_cases h : d ≤ n / 4294967296
  · have e0 : d * (n * 4294967296 / d) + n * 4294967296 % d = n * 4294967296 := Int.mul_ediv_add_emod _ _
    have r0 : 0 ≤ n * 4294967296 % d := Int.emod_nonneg _ (by omega)
    have r1 : n * 4294967296 % d < d := Int.emod_lt_of_pos _ (by omega)
    have hov := fixdiv_over n d _ _ y2 h e0.symm r1
    have hq := unhide HQ _ _ e0.symm r0 r1
    have hov2 : 9223372036854775808 < roundQ ng (n * 4294967296 / d) (n * 4294967296 % d) d := by unfold roundQ; split <;> omega
    have HO := hide (end_over ng _ hov2)
    rw [← hq] at HO
    clear HQ e0 r0 r1 hov hq hov2
    go_wp2_with fail
    refine (end_any _ _).mono ?_
    rintro e w3 ⟨rfl, rfl⟩
    go_wp2_with fail
    go_ret2
    exact ⟨0, by rw [unhide E1, unhide E2, (unhide HO).1, (unhide HO).2]; rfl, rfl⟩
  · obtain ⟨f1, f2, f3⟩ := fixdiv_words n
    obtain ⟨q, r, eq, er, hqr, r0, r1, q0, q1, q2⟩ := fixdiv_bd n d x0 x1 y2 (by omega)
    have hq := unhide HQ _ _ hqr r0 r1
    clear HQ hqr
    go_wp2_with fail
    refine (div64_all _ _ _ (by omega) f2 f3 (by omega) (by omega) _).mono ?_
    rintro e w3 ⟨k, rfl, rfl⟩
    rw [f1, eq, er]
    clear f1 f2 f3 eq er
    by_cases g : d - r < r ∨ (r = d - r ∧ ng = false)
    · have HQ : Hid (divQ a b = sgnZ ng (q + 1)) := by rw [hq]; unfold roundQ; rw [if_pos g]; exact rfl
      clear hq
      have q3 := q2 (by omega)
      clear q2
      by_cases g1 : d - r < r
      · clear g
        go_wp2_with fail
        refine (stop_any ng _ (by omega) (by omega) _).mono ?_
        rintro e w4 ⟨rfl, rfl⟩
        go_wp2_with fail
        go_ret2
        exact ⟨_, by rw [unhide E1, unhide E2, unhide HQ]; rfl, rfl⟩
      · have g2 : (r == d - r) = true := by simp; omega
        have g3 : ng = false := by rcases g with g | g; exact absurd g g1; exact g.2
        subst g3
        clear g
        go_wp2_with fail
        refine (stop_any false _ (by omega) (by omega) _).mono ?_
        rintro e w4 ⟨rfl, rfl⟩
        go_wp2_with fail
        go_ret2
        exact ⟨_, by rw [unhide E1, unhide E2, unhide HQ]; rfl, rfl⟩
    · have HQ : Hid (divQ a b = sgnZ ng q) := by rw [hq]; unfold roundQ; rw [if_neg g]; exact rfl
      clear hq q2
      have g1 : ¬ d - r < r := fun h => g (Or.inl h)
      by_cases g2 : r = d - r
      · have g3 : ng = true := by cases ng; exact absurd (Or.inr ⟨g2, rfl⟩) g; rfl
        have g4 : (r == d - r) = true := by simpa using g2
        subst g3
        clear g g2
        go_wp2_with fail
        refine (stop_any true _ (by omega) (by omega) _).mono ?_
        rintro e w4 ⟨rfl, rfl⟩
        go_wp2_with fail
        go_ret2
        exact ⟨_, by rw [unhide E1, unhide E2, unhide HQ]; rfl, rfl⟩
      · have g4 : (r == d - r) = false := by simpa using g2
        clear g g2
        go_wp2_with fail
        refine (stop_any ng _ (by omega) (by omega) _).mono ?_
        rintro e w4 ⟨rfl, rfl⟩
        go_wp2_with fail
        go_ret2
        exact ⟨_, by rw [unhide E1, unhide E2, unhide HQ]; rfl, rfl⟩

end Go.Proofs.YtngmeaaglogieabGreat

namespace Go.Proofs.YtngmeaaglogieabGreat

/-- One place set. -/
def stF (g : Nat → Int) (k : Nat) (x : Int) : Nat → Int := fun j => if j = k then x else g j
theorem stF_same (g : Nat → Int) (k : Nat) (x : Int) : stF g k x k = x := if_pos rfl
theorem stF_other (g : Nat → Int) {k j : Nat} (x : Int) (h : j ≠ k) : stF g k x j = g j := if_neg h
theorem stF_R {g : Nat → Int} {k : Nat} {x : Int} (h : ∀ i, R64 (g i)) (hx : R64 x) : ∀ i, R64 (stF g k x i) := by
  intro i; unfold stF; split
  · exact hx
  · exact h i

/-- Nought, and product by product. -/
def chV (a b : Nat → Int) : Nat → Int
  | 0 => 0
  | k + 1 => clampZ (chV a b k + clampZ (mulQ (a k) (b k)))
def chB (a b : Nat → Int) : Nat → Bool
  | 0 => false
  | k + 1 => chB a b k || bentZ (mulQ (a k) (b k)) || bentZ (chV a b k + clampZ (mulQ (a k) (b k)))
/-- Is any so? -/
def anyB (f : Nat → Bool) : Nat → Bool
  | 0 => false
  | k + 1 => anyB f k || f k
theorem R64_nought : R64 0 := by unfold R64; omega
theorem chV_R (a b : Nat → Int) : ∀ k, R64 (chV a b k)
  | 0 => R64_nought
  | _ + 1 => clampZ_R _
theorem chV_congr {a b c d : Nat → Int} : ∀ {n : Nat}, (∀ k, k < n → a k = c k) → (∀ k, k < n → b k = d k) → chV a b n = chV c d n
  | 0, _, _ => rfl
  | n + 1, h1, h2 => by
    show clampZ (chV a b n + clampZ (mulQ (a n) (b n))) = clampZ (chV c d n + clampZ (mulQ (c n) (d n)))
    rw [chV_congr (fun k hk => h1 k (by omega)) (fun k hk => h2 k (by omega)), h1 n (by omega), h2 n (by omega)]
theorem chB_congr {a b c d : Nat → Int} : ∀ {n : Nat}, (∀ k, k < n → a k = c k) → (∀ k, k < n → b k = d k) → chB a b n = chB c d n
  | 0, _, _ => rfl
  | n + 1, h1, h2 => by
    show (chB a b n || bentZ (mulQ (a n) (b n)) || bentZ (chV a b n + clampZ (mulQ (a n) (b n)))) = (chB c d n || bentZ (mulQ (c n) (d n)) || bentZ (chV c d n + clampZ (mulQ (c n) (d n))))
    rw [chB_congr (fun k hk => h1 k (by omega)) (fun k hk => h2 k (by omega)), chV_congr (n := n) (fun k hk => h1 k (by omega)) (fun k hk => h2 k (by omega)), h1 n (by omega), h2 n (by omega)]
theorem anyB_congr {f g : Nat → Bool} : ∀ {n : Nat}, (∀ k, k < n → f k = g k) → anyB f n = anyB g n
  | 0, _ => rfl
  | n + 1, h => by
    show (anyB f n || f n) = (anyB g n || g n)
    rw [anyB_congr (fun k hk => h k (by omega)), h n (by omega)]
theorem anyB_iff {f : Nat → Bool} : ∀ {n : Nat}, anyB f n = true ↔ ∃ k, k < n ∧ f k = true
  | 0 => by constructor
            · intro h; cases h
            · rintro ⟨k, hk, _⟩; omega
  | n + 1 => by
    show (anyB f n || f n) = true ↔ _
    rw [Bool.or_eq_true, anyB_iff]
    constructor
    · rintro (⟨k, hk, h⟩ | h)
      · exact ⟨k, by omega, h⟩
      · exact ⟨n, by omega, h⟩
    · rintro ⟨k, hk, h⟩
      rcases Nat.lt_or_ge k n with h1 | h1
      · exact Or.inl ⟨k, h1, h⟩
      · have : k = n := by omega
        subst this; exact Or.inr h

/-- What the columns done so far leave of a number. -/
def rsV (s : Int) (a b d : Nat → Int) : Nat → Int
  | 0 => s
  | k + 1 => clampZ (rsV s a b d k - clampZ (mulQ (clampZ (mulQ (a k) (b k))) (d k)))
def rsB (s : Int) (a b d : Nat → Int) : Nat → Bool
  | 0 => false
  | k + 1 => rsB s a b d k || bentZ (mulQ (a k) (b k)) || bentZ (mulQ (clampZ (mulQ (a k) (b k))) (d k)) || bentZ (rsV s a b d k - clampZ (mulQ (clampZ (mulQ (a k) (b k))) (d k)))
theorem rsV_R {s : Int} (a b d : Nat → Int) (h : R64 s) : ∀ k, R64 (rsV s a b d k)
  | 0 => h
  | _ + 1 => clampZ_R _
theorem rsV_congr {s : Int} {a b d a' b' d' : Nat → Int} : ∀ {n : Nat}, (∀ k, k < n → a k = a' k) → (∀ k, k < n → b k = b' k) → (∀ k, k < n → d k = d' k) → rsV s a b d n = rsV s a' b' d' n
  | 0, _, _, _ => rfl
  | n + 1, h1, h2, h3 => by
    show clampZ (rsV s a b d n - clampZ (mulQ (clampZ (mulQ (a n) (b n))) (d n))) = clampZ (rsV s a' b' d' n - clampZ (mulQ (clampZ (mulQ (a' n) (b' n))) (d' n)))
    rw [rsV_congr (fun k hk => h1 k (by omega)) (fun k hk => h2 k (by omega)) (fun k hk => h3 k (by omega)), h1 n (by omega), h2 n (by omega), h3 n (by omega)]
theorem rsB_congr {s : Int} {a b d a' b' d' : Nat → Int} : ∀ {n : Nat}, (∀ k, k < n → a k = a' k) → (∀ k, k < n → b k = b' k) → (∀ k, k < n → d k = d' k) → rsB s a b d n = rsB s a' b' d' n
  | 0, _, _, _ => rfl
  | n + 1, h1, h2, h3 => by
    show (rsB s a b d n || _ || _ || bentZ (rsV s a b d n - _)) = (rsB s a' b' d' n || _ || _ || bentZ (rsV s a' b' d' n - _))
    rw [rsB_congr (fun k hk => h1 k (by omega)) (fun k hk => h2 k (by omega)) (fun k hk => h3 k (by omega)), rsV_congr (n := n) (fun k hk => h1 k (by omega)) (fun k hk => h2 k (by omega)) (fun k hk => h3 k (by omega)), h1 n (by omega), h2 n (by omega), h3 n (by omega)]

/-- A number less products. -/
def sbV (s : Int) (a y : Nat → Int) : Nat → Int
  | 0 => s
  | k + 1 => clampZ (sbV s a y k - clampZ (mulQ (a k) (y k)))
def sbB (s : Int) (a y : Nat → Int) : Nat → Bool
  | 0 => false
  | k + 1 => sbB s a y k || bentZ (mulQ (a k) (y k)) || bentZ (sbV s a y k - clampZ (mulQ (a k) (y k)))
theorem sbV_R {s : Int} (a y : Nat → Int) (h : R64 s) : ∀ k, R64 (sbV s a y k)
  | 0 => h
  | _ + 1 => clampZ_R _
theorem sbV_congr {s : Int} {a y a' y' : Nat → Int} : ∀ {n : Nat}, (∀ k, k < n → a k = a' k) → (∀ k, k < n → y k = y' k) → sbV s a y n = sbV s a' y' n
  | 0, _, _ => rfl
  | n + 1, h1, h2 => by
    show clampZ (sbV s a y n - clampZ (mulQ (a n) (y n))) = clampZ (sbV s a' y' n - clampZ (mulQ (a' n) (y' n)))
    rw [sbV_congr (fun k hk => h1 k (by omega)) (fun k hk => h2 k (by omega)), h1 n (by omega), h2 n (by omega)]
theorem sbB_congr {s : Int} {a y a' y' : Nat → Int} : ∀ {n : Nat}, (∀ k, k < n → a k = a' k) → (∀ k, k < n → y k = y' k) → sbB s a y n = sbB s a' y' n
  | 0, _, _ => rfl
  | n + 1, h1, h2 => by
    show (sbB s a y n || _ || bentZ (sbV s a y n - _)) = (sbB s a' y' n || _ || bentZ (sbV s a' y' n - _))
    rw [sbB_congr (fun k hk => h1 k (by omega)) (fun k hk => h2 k (by omega)), sbV_congr (n := n) (fun k hk => h1 k (by omega)) (fun k hk => h2 k (by omega)), h1 n (by omega), h2 n (by omega)]

/-- Places of a square: row and column tell the place. -/
theorem idx_lt {n i k : Nat} (hi : i < n) (hk : k < n) : i * n + k < n * n := by
  have := Nat.mul_le_mul_right n (show i + 1 ≤ n from hi)
  rw [Nat.add_mul, Nat.one_mul] at this
  omega
theorem idx_div {n i k : Nat} (hk : k < n) : (i * n + k) / n = i := by
  rw [Nat.mul_comm, Nat.mul_add_div (by omega), Nat.div_eq_of_lt hk]; rfl
theorem idx_mod {n i k : Nat} (hk : k < n) : (i * n + k) % n = k := by
  rw [Nat.mul_comm, Nat.mul_add_mod, Nat.mod_eq_of_lt hk]
theorem idx_inj {n i k a c : Nat} (hk : k < n) (hc : c < n) (h : a * n + c = i * n + k) : a = i ∧ c = k := by
  have h1 := idx_div (i := i) hk
  have h2 := idx_mod (i := i) hk
  rw [← h] at h1 h2
  rw [idx_div hc] at h1
  rw [idx_mod hc] at h2
  exact ⟨h1, h2⟩
theorem idx_of {n p : Nat} (hp : p < n * n) : ∃ a c, a < n ∧ c < n ∧ p = a * n + c := by
  have hn : 0 < n := by rcases Nat.eq_zero_or_pos n with h | h; · subst h; omega
                        · exact h
  refine ⟨p / n, p % n, Nat.div_lt_of_lt_mul hp, Nat.mod_lt _ hn, ?_⟩
  rw [Nat.mul_comm]; exact (Nat.div_add_mod p n).symm
theorem sq_le {n : Nat} (h : n ≤ 6) : n * n ≤ 36 := Nat.mul_le_mul h h

theorem overV_R (a : Int) : R64 (overV a) := by
  unfold R64 overV endZ; repeat' split
  all_goals omega
theorem quot_R (a b : Int) : R64 (divV a b) := by
  unfold divV; split
  · exact overV_R a
  · exact clampZ_R _

end Go.Proofs.YtngmeaaglogieabGreat
