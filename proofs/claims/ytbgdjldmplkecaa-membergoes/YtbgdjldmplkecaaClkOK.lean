/- What Local, Middle, Round and Spread are held to, whoever wrote them. -/
import Derived.Test.YtbgdjldmplkecaaClkSpec
import Derived.Test.YtbgdjldmplkecaaIntMem
namespace Go.Proofs.Ytbgdjldmplkecaa
open Go.RowKit

/-- A clock as a value. -/
def ckV (O R : Int) : Value := .agg #[.int .i64 O, .int .i64 R]
/-- Is something out of its bounds? -/
def lcBad (O R t : Int) : Prop := O < -1073741824 ∨ 1073741824 < O ∨ R < -500 ∨ 500 < R ∨ t < 0 ∨ 1099511627776 < t
instance (O R t : Int) : Decidable (lcBad O R t) := by unfold lcBad; infer_instance
/-- What a clock shows. -/
def lcV (O R t : Int) : Int := if lcBad O R t then 0 else t + O + t * R / 1000000
def lcE (O R t : Int) : Int := if lcBad O R t then 3 else 0
def LcOK (fn : Nat) : Prop := ∀ (O R t : Int) (w : World), R64 O → R64 R → R64 t →
  Calls Try.prog fn #[ckV O R, .int .i64 t] w fun e w' => e = .returned (.tuple #[.int .i64 (lcV O R t), .int .i64 (lcE O R t)]) ∧ Below w.heap.size w w'

/-- What Middle answers. -/
def mdR (f : Nat → Int) (n : Nat) (m E : Int) : Prop := (1 ≤ n ∧ n ≤ 64 ∧ E = 0 ∧ IsMid f n m) ∨ ((n < 1 ∨ 64 < n) ∧ E = 8 ∧ m = 0)
theorem mdR_one {f : Nat → Int} {n : Nat} {m E m' E' : Int} (h : mdR f n m E) (h' : mdR f n m' E') : m = m' ∧ E = E' := by
  rcases h with ⟨a1, a2, a3, a4⟩ | ⟨a1, a2, a3⟩ <;> rcases h' with ⟨b1, b2, b3, b4⟩ | ⟨b1, b2, b3⟩
  · exact ⟨mid_one a4 b4, by omega⟩
  · omega
  · omega
  · omega
def MdOK (fn : Nat) : Prop := ∀ (ao : Option Addr) (n cap : Nat) (f : Nat → Int) (w : World), (∀ i, R64 (f i)) → n * 8 ≤ 140737488351232 → n ≤ cap → Sr w ao n cap (iF f) →
  Calls Try.prog fn #[.slice ao n cap] w fun e w' => ∃ m E, mdR f n m E ∧ e = .returned (.tuple #[.int .i64 m, .int .i64 E]) ∧ Below w.heap.size w w'

/-- Four numbers as one value. -/
def fourV (f : Nat → Int) : Value := .agg #[.int .i64 (f 0), .int .i64 (f 1), .int .i64 (f 2), .int .i64 (f 3)]
/-- What the i-th clock reads. -/
def rdF (f l : Nat → Int) (bad : Int) (i : Nat) (k : Nat) : Int := if (k : Int) = bad then l i else f k
/-- What Round answers. -/
def rnBad (f l : Nat → Int) : Prop := ∃ i, i < 4 ∧ (f i < -1099511627776 ∨ 1099511627776 < f i ∨ l i < -1099511627776 ∨ 1099511627776 < l i)
def rnR (f l : Nat → Int) (bad : Int) (x : Nat → Int) (E : Int) : Prop :=
  (rnBad f l ∧ E = 3 ∧ ∀ i : Nat, i < 4 → x i = 0) ∨ (¬ rnBad f l ∧ E = 0 ∧ ∀ i : Nat, i < 4 → ((i : Int) = bad → x i = f i) ∧ ((i : Int) ≠ bad → IsMid (rdF f l bad i) 4 (x i)))
theorem rnR_one {f l : Nat → Int} {bad : Int} {x x' : Nat → Int} {E E' : Int} (h : rnR f l bad x E) (h' : rnR f l bad x' E') : E = E' ∧ ∀ i, i < 4 → x i = x' i := by
  rcases h with ⟨a1, a2, a3⟩ | ⟨a1, a2, a3⟩ <;> rcases h' with ⟨b1, b2, b3⟩ | ⟨b1, b2, b3⟩
  · exact ⟨by omega, fun i hi => by rw [a3 i hi, b3 i hi]⟩
  · exact absurd a1 b1
  · exact absurd b1 a1
  · refine ⟨by omega, fun i hi => ?_⟩
    by_cases c : (i : Int) = bad
    · rw [(a3 i hi).1 c, (b3 i hi).1 c]
    · exact mid_one ((a3 i hi).2 c) ((b3 i hi).2 c)
def RnOK (fn : Nat) : Prop := ∀ (f l : Nat → Int) (bad : Int) (w : World), (∀ i, R64 (f i)) → (∀ i, R64 (l i)) → R64 bad →
  Calls Try.prog fn #[fourV f, .int .i64 bad, fourV l] w fun e w' => ∃ x E, rnR f l bad x E ∧ e = .returned (.tuple #[fourV x, .int .i64 E]) ∧ Below w.heap.size w w'

/-- What Spread answers. -/
def spBad (f : Nat → Int) : Prop := ∃ i, i < 4 ∧ (f i < -2199023255552 ∨ 2199023255552 < f i)
def IsSp (f : Nat → Int) (bad s : Int) : Prop := (∀ i k : Nat, i < 4 → k < 4 → (i : Int) ≠ bad → (k : Int) ≠ bad → f i - f k ≤ s) ∧ ∃ i k : Nat, i < 4 ∧ k < 4 ∧ (i : Int) ≠ bad ∧ (k : Int) ≠ bad ∧ s = f i - f k
theorem sp_one {f : Nat → Int} {bad s s' : Int} (h : IsSp f bad s) (h' : IsSp f bad s') : s = s' := by
  obtain ⟨h1, i, k, hi, hk, bi, bk, rfl⟩ := h
  obtain ⟨h2, j, m, hj, hm, bj, bm, rfl⟩ := h'
  have := h1 j m hj hm bj bm; have := h2 i k hi hk bi bk
  omega
def spR (f : Nat → Int) (bad s E : Int) : Prop := (spBad f ∧ E = 3 ∧ s = 0) ∨ (¬ spBad f ∧ E = 0 ∧ IsSp f bad s)
theorem spR_one {f : Nat → Int} {bad s E s' E' : Int} (h : spR f bad s E) (h' : spR f bad s' E') : s = s' ∧ E = E' := by
  rcases h with ⟨a1, a2, a3⟩ | ⟨a1, a2, a3⟩ <;> rcases h' with ⟨b1, b2, b3⟩ | ⟨b1, b2, b3⟩
  · omega
  · exact absurd a1 b1
  · exact absurd b1 a1
  · exact ⟨sp_one a3 b3, by omega⟩
def SpOK (fn : Nat) : Prop := ∀ (f : Nat → Int) (bad : Int) (w : World), (∀ i, R64 (f i)) → R64 bad →
  Calls Try.prog fn #[fourV f, .int .i64 bad] w fun e w' => ∃ s E, spR f bad s E ∧ e = .returned (.tuple #[.int .i64 s, .int .i64 E]) ∧ Below w.heap.size w w'

/-- A round, seen as a whole: it halves how far the good ones are apart, and none of them leaves their range. -/
theorem round_in {f l : Nat → Int} {bad : Int} {x : Nat → Int} (h : rnR f l bad x 0) {i : Nat} (hi : i < 4) (hb : (i : Int) ≠ bad) {lo hh : Int} (hr : ∀ k : Nat, k < 4 → (k : Int) ≠ bad → lo ≤ f k ∧ f k ≤ hh) : lo ≤ x i ∧ x i ≤ hh := by
  rcases h with ⟨_, h, _⟩ | ⟨_, _, h⟩
  · omega
  · have hm := (h i hi).2 hb
    by_cases c : ∃ j : Nat, j < 4 ∧ (j : Int) = bad
    · obtain ⟨j, hj, rfl⟩ := c
      obtain ⟨p, q, r, g1, ⟨k1, hk1, n1, rfl⟩, ⟨k2, hk2, n2, rfl⟩, g4⟩ := four_good f j hj
      obtain ⟨a, b, ha, hb', e1⟩ := hm
      have hf : ∀ k, k < 4 → k ≠ j → rdF f l (j : Int) i k = f k := fun k _ hn => by unfold rdF; rw [if_neg (by omega)]
      have := g4 _ a b hf ha hb'
      have := hr k1 hk1 (by omega); have := hr k2 hk2 (by omega)
      omega
    · refine mid_within hm (fun k hk => ?_)
      have hn : (k : Int) ≠ bad := fun e => c ⟨k, hk, e⟩
      unfold rdF
      rw [if_neg hn]
      exact hr k hk hn
theorem round_half {f l : Nat → Int} {bad : Int} {x : Nat → Int} {a b : Int} (h : rnR f l bad x 0) (ha : IsSp f bad a) (hb : IsSp x bad b) : 2 * b ≤ a + 1 := by
  rcases h with ⟨_, h, _⟩ | ⟨_, _, h⟩
  · omega
  · obtain ⟨_, i, k, hi, hk, bi, bk, rfl⟩ := hb
    have mi := (h i hi).2 bi; have mk := (h k hk).2 bk
    by_cases c : ∃ j : Nat, j < 4 ∧ (j : Int) = bad
    · obtain ⟨j, hj, rfl⟩ := c
      obtain ⟨p, q, r, g1, ⟨k1, hk1, n1, rfl⟩, ⟨k2, hk2, n2, rfl⟩, g4⟩ := four_good f j hj
      obtain ⟨u, v, hu, hv, e1⟩ := mi
      obtain ⟨u', v', hu', hv', e2⟩ := mk
      have hf : ∀ i k, k < 4 → k ≠ j → rdF f l (j : Int) i k = f k := fun i k _ hn => by unfold rdF; rw [if_neg (by omega)]
      have := g4 _ u v (hf i) hu hv
      have := g4 _ u' v' (hf k) hu' hv'
      have := ha.1 k2 k1 hk2 hk1 (by omega) (by omega)
      omega
    · have e : ∀ t, t < 4 → rdF f l bad i t = rdF f l bad k t := fun t ht => by unfold rdF; rw [if_neg (fun e => c ⟨t, ht, e⟩), if_neg (fun e => c ⟨t, ht, e⟩)]
      have := mid_one (mid_congr e mi) mk
      have := ha.1 i i hi hi bi bi
      omega

end Go.Proofs.Ytbgdjldmplkecaa
