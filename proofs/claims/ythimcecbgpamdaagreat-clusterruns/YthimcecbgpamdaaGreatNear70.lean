/- Joined: IntMem, ClkOK, FourMem, VotOK. -/
import Derived.Test.YthimcecbgpamdaaGreatNear168
import Derived.Test.YthimcecbgpamdaaGreatNear171
import Derived.Test.YthimcecbgpamdaaGreatNear149
namespace Go.Proofs.YthimcecbgpamdaaGreat
open Go.RowKit

/-- Numbers as values. -/
def iF (f : Nat → Int) (i : Nat) : Value := .int .i64 (f i)
theorem iF_one (f : Nat → Int) (i : Nat) : (iF f i).oneCell' = true := rfl

theorem own_base {t : TypeId} {B C : Nat} {w : World} {v : Value} {n : Nat} {xs : List Value} (h : w.ownsRow B t 1 v n xs) (e : C ≤ B) : w.ownsRow C t 1 v n xs := by
  refine ⟨h.1, ?_⟩
  rcases h.2 with hn | ⟨g, cap, cur, rfl, hb, rest⟩
  · exact .inl hn
  · exact .inr ⟨g, cap, cur, rfl, Nat.le_trans e hb, rest⟩

theorem own_keptz {t : TypeId} {B z : Nat} {w w' : World} {v : Value} {n : Nat} {xs : List Value} (h : w.ownsRow B t 1 v n xs) (k : Kept z w w') (hz : z < B) : w'.ownsRow B t 1 v n xs := by
  refine ⟨h.1, ?_⟩
  rcases h.2 with hn | ⟨g, cap, cur, rfl, hb, hgg, rest⟩
  · exact .inl hn
  · exact .inr ⟨g, cap, cur, rfl, hb, (k.block g (lt_of_block hgg) (by omega)).trans hgg, rest⟩
theorem rowV_snoc {g u : Nat → Value} {i : Nat} (h : g i = u 0) : rowV g i ++ rowV u 1 = rowV g (i + 1) := by
  rw [rowV_append]
  refine rowV_congr (fun j hj => ?_)
  by_cases c : j < i
  · rw [if_pos c]
  · rw [if_neg c]
    have : j = i := by omega
    subst this
    rw [Nat.sub_self, h]

/-- Numbers appended to a row of one's own. -/
theorem wp_joinI (w : World) {o : Oper} {a : Act} {K : Act → World → Prop} {Q : Exit → Act → World → Prop} (s x : Operand)
    (ho : o.op = .call { callee := .builtin .append, args := #[s, x], argTypes := #[65, 65] }) (B : Nat) (hB : B ≤ w.heap.size)
    (v : Value) (n : Nat) (xs : List Value) (hs : a.eval s = v) (hown : w.ownsRow B 3 1 v n xs)
    (vo : Option Addr) (lv cv : Nat) (f : Nat → Value) (hx : a.eval x = .slice vo lv cv) (har : Sr w vo lv cv f) (h1 : ∀ i, i < lv → (f i).oneCell' = true) (hl : (n + lv) * 8 ≤ 140737488355328)
    (h : ∀ v' w', w'.ownsRow B 3 1 v' (n + lv) (xs ++ rowV f lv) → Below B w w' → K (a.put o.dst v') w') : o.wp Tryz.prog a w K Q := by
  obtain ⟨i0, hi, hz0, hz1, hz2⟩ := info_parts infoInt
  rcases har with ⟨rfl, rfl, rfl⟩ | ⟨y, rfl, hc⟩
  · have hrun := run_append_owned_none (P := Tryz.prog) (w := w) B 65 o.type 3 i0 1 Tryz.underlying65 hi v n xs hown
    have hh := h v w (by simpa [rowV] using hown) (Below.refl _ _)
    unfold Oper.wp execOp
    simp only [ho, resolve, invoke, builtin, Sem.run_bind, Sem.run_pure, Result.andThen_ok, List.map_toArray, List.map_cons, List.map_nil, hs, hx, hrun]
    exact hh
  · refine wp_append_own (P := Tryz.prog) w s x 65 ho B 3 i0 (.int .i64 0) 1 8 Tryz.underlying65 hi hz0 hz1 hz2 rfl (by decide) v n xs hs hown y lv cv (rowV f lv) hx (rowV_len f lv) ?_ (rowV_one f lv h1) (by unfold maxLen; omega) (by omega) hB ?_
    · intro j u hj
      rcases Nat.lt_or_ge j lv with h2 | h2
      · rw [rowV_at f h2] at hj; cases hj
        exact hc j h2
      · rw [rowV_none f h2] at hj; cases hj
    · intro v' w2 ho2 hgr hnil
      exact h v' w2 ho2 (own_below hown hgr (Below.refl _ _) hB)
theorem wpList_joinI (w : World) {ops : Array Oper} {rest : List Oper} {o : Oper} {a : Act} {Q : Exit → Act → World → Prop} (hgd : o.guard = none) (s x : Operand)
    (ho : o.op = .call { callee := .builtin .append, args := #[s, x], argTypes := #[65, 65] }) (B : Nat) (hB : B ≤ w.heap.size)
    (v : Value) (n : Nat) (xs : List Value) (hs : a.eval s = v) (hown : w.ownsRow B 3 1 v n xs)
    (vo : Option Addr) (lv cv : Nat) (f : Nat → Value) (hx : a.eval x = .slice vo lv cv) (har : Sr w vo lv cv f) (h1 : ∀ i, i < lv → (f i).oneCell' = true) (hl : (n + lv) * 8 ≤ 140737488355328)
    (h : ∀ v' w', w'.ownsRow B 3 1 v' (n + lv) (xs ++ rowV f lv) → Below B w w' → wpList Tryz.prog ops Q rest (a.put o.dst v') w') : wpList Tryz.prog ops Q (o :: rest) a w :=
  wpList_plain hgd fun _ hK => wp_joinI w s x ho B hB v n xs hs hown vo lv cv f hx har h1 hl fun v' w' h2 h3 => hK _ _ (h v' w' h2 h3)

end Go.Proofs.YthimcecbgpamdaaGreat

namespace Go.Proofs.YthimcecbgpamdaaGreat
open Go.RowKit

/-- A clock as a value. -/
def ckV (O R : Int) : Value := .agg #[.int .i64 O, .int .i64 R]
/-- Is something out of its bounds? -/
def lcBad (O R t : Int) : Prop := O < -1073741824 ∨ 1073741824 < O ∨ R < -500 ∨ 500 < R ∨ t < 0 ∨ 1099511627776 < t
instance (O R t : Int) : Decidable (lcBad O R t) := by unfold lcBad; infer_instance
/-- What a clock shows. -/
def lcV (O R t : Int) : Int := if lcBad O R t then 0 else t + O + t * R / 1000000
def lcE (O R t : Int) : Int := if lcBad O R t then 3 else 0
def LcOK (fn : Nat) : Prop := ∀ (O R t : Int) (w : World), R64 O → R64 R → R64 t →
  Calls Tryz.prog fn #[ckV O R, .int .i64 t] w fun e w' => e = .returned (.tuple #[.int .i64 (lcV O R t), .int .i64 (lcE O R t)]) ∧ Below w.heap.size w w'

/-- What Middle answers. -/
def mdR (f : Nat → Int) (n : Nat) (m E : Int) : Prop := (1 ≤ n ∧ n ≤ 64 ∧ E = 0 ∧ IsMid f n m) ∨ ((n < 1 ∨ 64 < n) ∧ E = 8 ∧ m = 0)
theorem mdR_one {f : Nat → Int} {n : Nat} {m E m' E' : Int} (h : mdR f n m E) (h' : mdR f n m' E') : m = m' ∧ E = E' := by
  rcases h with ⟨a1, a2, a3, a4⟩ | ⟨a1, a2, a3⟩ <;> rcases h' with ⟨b1, b2, b3, b4⟩ | ⟨b1, b2, b3⟩
  · exact ⟨mid_one a4 b4, by omega⟩
  · omega
  · omega
  · omega
def MdOK (fn : Nat) : Prop := ∀ (ao : Option Addr) (n cap : Nat) (f : Nat → Int) (w : World), (∀ i, R64 (f i)) → n * 8 ≤ 140737488351232 → n ≤ cap → Sr w ao n cap (iF f) →
  Calls Tryz.prog fn #[.slice ao n cap] w fun e w' => ∃ m E, mdR f n m E ∧ e = .returned (.tuple #[.int .i64 m, .int .i64 E]) ∧ Below w.heap.size w w'

/-- Four numbers as one value. -/
def fourV (f : Nat → Int) : Value := .agg #[.int .i64 (f 0), .int .i64 (f 1), .int .i64 (f 2), .int .i64 (f 3)]
/-- What the i-th clock reads. -/
def rdF (f l : Nat → Int) (bad : Int) (i : Nat) (k : Nat) : Int := if (k : Int) = bad then l i else f k
/-- What Round answers. -/
def rnBad (f l : Nat → Int) : Prop := ∃ i, i < 4 ∧ (f i < -1099511627776 ∨ 1099511627776 < f i ∨ l i < -1099511627776 ∨ 1099511627776 < l i)
def rnR (f l : Nat → Int) (bad : Int) (x : Nat → Int) (E : Int) : Prop :=
  (rnBad f l ∧ E = 3 ∧ ∀ i : Nat, i < 4 → x i = 0) ∨ (¬ rnBad f l ∧ E = 0 ∧ ∀ i : Nat, i < 4 → ((i : Int) = bad → x i = f i) ∧ ((i : Int) ≠ bad → IsMid (rdF f l bad i) 4 (x i)))
theorem rnR_one {f l : Nat → Int} {bad : Int} {x x' : Nat → Int} {E E' : Int} (h : rnR f l bad x E) (h' : rnR f l bad x' E') : E = E' ∧ ∀ i, i < 4 → x i = x' i := by
  rcases h with ⟨a1, a2, a3⟩ | ⟨a1, a2, a3⟩ <;> rcases h' with ⟨b1, b2, b3⟩ | ⟨b1, b2, b3⟩
  · exact ⟨by omega, fun i hi => by rw [a3 i hi, b3 i hi]⟩
  · exact absurd a1 b1
  · exact absurd b1 a1
  · refine ⟨by omega, fun i hi => ?_⟩
    by_cases c : (i : Int) = bad
    · rw [(a3 i hi).1 c, (b3 i hi).1 c]
    · exact mid_one ((a3 i hi).2 c) ((b3 i hi).2 c)
def RnOK (fn : Nat) : Prop := ∀ (f l : Nat → Int) (bad : Int) (w : World), (∀ i, R64 (f i)) → (∀ i, R64 (l i)) → R64 bad →
  Calls Tryz.prog fn #[fourV f, .int .i64 bad, fourV l] w fun e w' => ∃ x E, rnR f l bad x E ∧ e = .returned (.tuple #[fourV x, .int .i64 E]) ∧ Below w.heap.size w w'

/-- What Spread answers. -/
def spBad (f : Nat → Int) : Prop := ∃ i, i < 4 ∧ (f i < -2199023255552 ∨ 2199023255552 < f i)
def IsSp (f : Nat → Int) (bad s : Int) : Prop := (∀ i k : Nat, i < 4 → k < 4 → (i : Int) ≠ bad → (k : Int) ≠ bad → f i - f k ≤ s) ∧ ∃ i k : Nat, i < 4 ∧ k < 4 ∧ (i : Int) ≠ bad ∧ (k : Int) ≠ bad ∧ s = f i - f k
theorem sp_one {f : Nat → Int} {bad s s' : Int} (h : IsSp f bad s) (h' : IsSp f bad s') : s = s' := by
  obtain ⟨h1, i, k, hi, hk, bi, bk, rfl⟩ := h
  obtain ⟨h2, j, m, hj, hm, bj, bm, rfl⟩ := h'
  have := h1 j m hj hm bj bm; have := h2 i k hi hk bi bk
  omega
def spR (f : Nat → Int) (bad s E : Int) : Prop := (spBad f ∧ E = 3 ∧ s = 0) ∨ (¬ spBad f ∧ E = 0 ∧ IsSp f bad s)
theorem spR_one {f : Nat → Int} {bad s E s' E' : Int} (h : spR f bad s E) (h' : spR f bad s' E') : s = s' ∧ E = E' := by
  rcases h with ⟨a1, a2, a3⟩ | ⟨a1, a2, a3⟩ <;> rcases h' with ⟨b1, b2, b3⟩ | ⟨b1, b2, b3⟩
  · omega
  · exact absurd a1 b1
  · exact absurd b1 a1
  · exact ⟨sp_one a3 b3, by omega⟩
def SpOK (fn : Nat) : Prop := ∀ (f : Nat → Int) (bad : Int) (w : World), (∀ i, R64 (f i)) → R64 bad →
  Calls Tryz.prog fn #[fourV f, .int .i64 bad] w fun e w' => ∃ s E, spR f bad s E ∧ e = .returned (.tuple #[.int .i64 s, .int .i64 E]) ∧ Below w.heap.size w w'

/-- A round, seen as a whole: it halves how far the good ones are apart, and none of them leaves their range. -/
theorem round_in {f l : Nat → Int} {bad : Int} {x : Nat → Int} (h : rnR f l bad x 0) {i : Nat} (hi : i < 4) (hb : (i : Int) ≠ bad) {lo hh : Int} (hr : ∀ k : Nat, k < 4 → (k : Int) ≠ bad → lo ≤ f k ∧ f k ≤ hh) : lo ≤ x i ∧ x i ≤ hh := by
  rcases h with ⟨_, h, _⟩ | ⟨_, _, h⟩
  · omega
  · have hm := (h i hi).2 hb
    by_cases c : ∃ j : Nat, j < 4 ∧ (j : Int) = bad
    · obtain ⟨j, hj, rfl⟩ := c
      obtain ⟨p, q, r, g1, ⟨k1, hk1, n1, rfl⟩, ⟨k2, hk2, n2, rfl⟩, g4⟩ := four_good f j hj
      obtain ⟨a, b, ha, hb', e1⟩ := hm
      have hf : ∀ k, k < 4 → k ≠ j → rdF f l (j : Int) i k = f k := fun k _ hn => by unfold rdF; rw [if_neg (by omega)]
      have := g4 _ a b hf ha hb'
      have := hr k1 hk1 (by omega); have := hr k2 hk2 (by omega)
      omega
    · refine mid_within hm (fun k hk => ?_)
      have hn : (k : Int) ≠ bad := fun e => c ⟨k, hk, e⟩
      unfold rdF
      rw [if_neg hn]
      exact hr k hk hn
theorem round_half {f l : Nat → Int} {bad : Int} {x : Nat → Int} {a b : Int} (h : rnR f l bad x 0) (ha : IsSp f bad a) (hb : IsSp x bad b) : 2 * b ≤ a + 1 := by
  rcases h with ⟨_, h, _⟩ | ⟨_, _, h⟩
  · omega
  · obtain ⟨_, i, k, hi, hk, bi, bk, rfl⟩ := hb
    have mi := (h i hi).2 bi; have mk := (h k hk).2 bk
    by_cases c : ∃ j : Nat, j < 4 ∧ (j : Int) = bad
    · obtain ⟨j, hj, rfl⟩ := c
      obtain ⟨p, q, r, g1, ⟨k1, hk1, n1, rfl⟩, ⟨k2, hk2, n2, rfl⟩, g4⟩ := four_good f j hj
      obtain ⟨u, v, hu, hv, e1⟩ := mi
      obtain ⟨u', v', hu', hv', e2⟩ := mk
      have hf : ∀ i k, k < 4 → k ≠ j → rdF f l (j : Int) i k = f k := fun i k _ hn => by unfold rdF; rw [if_neg (by omega)]
      have := g4 _ u v (hf i) hu hv
      have := g4 _ u' v' (hf k) hu' hv'
      have := ha.1 k2 k1 hk2 hk1 (by omega) (by omega)
      omega
    · have e : ∀ t, t < 4 → rdF f l bad i t = rdF f l bad k t := fun t ht => by unfold rdF; rw [if_neg (fun e => c ⟨t, ht, e⟩), if_neg (fun e => c ⟨t, ht, e⟩)]
      have := mid_one (mid_congr e mi) mk
      have := ha.1 i i hi hi bi bi
      omega

end Go.Proofs.YthimcecbgpamdaaGreat

namespace Go.Proofs.YthimcecbgpamdaaGreat
open Go.RowKit

/-- The block of four numbers. -/
def F4 (w : World) (b : Nat) (f : Nat → Int) : Prop := Vh 28 w b 4 4 (iF f)
section
variable {w w' : World} {b : Nat} {f : Nat → Int}
theorem F4.cell (h : F4 w b f) {i : Nat} (hi : i < 4) : w.cell? ⟨b, i, none⟩ = some (.int .i64 (f i)) := Vh.cell h hi
theorem F4.free (h : F4 w b f) (i : Nat) : w.frozen? ⟨b, i, none⟩ = false := Vh.free h i
theorem F4.lt (h : F4 w b f) : b < w.heap.size := Vh.lt h
theorem F4.below (h : F4 w b f) (k : Below w.heap.size w w') : F4 w' b f := Vh.below h k
theorem F4.under {B : Nat} (h : F4 w b f) (k : Below B w w') (hb : b < B) : F4 w' b f := Vh.same h (k.block b hb)
theorem F4.kept {z : Nat} (h : F4 w b f) (k : Kept z w w') (hz : b ≠ z) : F4 w' b f := Vh.kept h k hz
theorem F4.congr {g : Nat → Int} (h : F4 w b f) (e : ∀ i, i < 4 → f i = g i) : F4 w b g := Vh.congr h (fun i hi => by unfold iF; rw [e i hi])
theorem F4.set (h : F4 w b f) (i : Nat) (x : Int) : F4 (w.setCell ⟨b, i, none⟩ (.int .i64 x)) b (fun j => if j = i then x else f j) :=
  Vh.congr (Vh.set h i (.int .i64 x)) (fun j _ => by
    unfold stW iF
    by_cases e : j = i
    · rw [if_pos e]; show _ = Value.int .i64 (if j = i then x else f j); rw [if_pos e]
    · rw [if_neg e]; show _ = Value.int .i64 (if j = i then x else f j); rw [if_neg e])
theorem F4.new (w : World) (f : Nat → Int) : F4 (w.alloc (.cells #[.int .i64 (f 0), .int .i64 (f 1), .int .i64 (f 2), .int .i64 (f 3)] 28)) w.heap.size f :=
  Vh.new w 28 #[.int .i64 (f 0), .int .i64 (f 1), .int .i64 (f 2), .int .i64 (f 3)] (iF f) (by show 4 ≤ maxLen; decide) (fun i hi => by
    have : i = 0 ∨ i = 1 ∨ i = 2 ∨ i = 3 := by simp at hi; omega
    rcases this with rfl | rfl | rfl | rfl <;> rfl)
theorem F4.put (h : F4 w b f) (g : Nat → Int) : ∃ w', w' = (((w.setCell ⟨b, 0, none⟩ (.int .i64 (g 0))).setCell ⟨b, 1, none⟩ (.int .i64 (g 1))).setCell ⟨b, 2, none⟩ (.int .i64 (g 2))).setCell ⟨b, 3, none⟩ (.int .i64 (g 3)) ∧ F4 w' b g ∧ Kept b w w' := by
  refine ⟨_, rfl, ((((h.set 0 (g 0)).set 1 (g 1)).set 2 (g 2)).set 3 (g 3)).congr (fun i hi => ?_), (((kept_set w b 0 _).trans (kept_set _ b 1 _) (Or.inl rfl)).trans (kept_set _ b 2 _) (Or.inl rfl)).trans (kept_set _ b 3 _) (Or.inl rfl)⟩
  have : i = 0 ∨ i = 1 ∨ i = 2 ∨ i = 3 := by omega
  rcases this with rfl | rfl | rfl | rfl <;> rfl
end
theorem f4_alloc (w : World) (f : Nat → Int) : ∃ w1, w1 = w.alloc (.cells #[.int .i64 (f 0), .int .i64 (f 1), .int .i64 (f 2), .int .i64 (f 3)] 28) ∧ F4 w1 w.heap.size f ∧ Below w.heap.size w w1 ∧ w1.heap.size = w.heap.size + 1 :=
  ⟨_, rfl, F4.new w f, al_below w _, al_size w _⟩
/-- Two handed in and a result's. -/
theorem f4_three (w : World) (f l : Nat → Int) : ∃ w1, w1 = ((w.alloc (.cells #[.int .i64 (f 0), .int .i64 (f 1), .int .i64 (f 2), .int .i64 (f 3)] 28)).alloc (.cells #[.int .i64 (l 0), .int .i64 (l 1), .int .i64 (l 2), .int .i64 (l 3)] 28)).alloc (.cells #[.int .i64 0, .int .i64 0, .int .i64 0, .int .i64 0] 28) ∧
    F4 w1 w.heap.size f ∧ F4 w1 (w.heap.size + 1) l ∧ F4 w1 (w.heap.size + 1 + 1) (fun _ => 0) ∧ Below w.heap.size w w1 ∧ w1.heap.size = w.heap.size + 1 + 1 + 1 := by
  obtain ⟨u, eu, mu, ku, su⟩ := f4_alloc w f
  obtain ⟨v, ev, mv, kv, sv⟩ := f4_alloc u l
  obtain ⟨x, exx, mx, kx, sx⟩ := f4_alloc v (fun _ => 0)
  subst eu
  subst ev
  rw [su] at mv
  rw [sv, su] at mx
  refine ⟨x, exx, (mu.below kv).below kx, mv.below kx, mx, ?_, by omega⟩
  exact (ku.trans (kv.mono (by omega))).trans (kx.mono (by omega))

theorem run_index4 (f : Nat → Int) {i : Nat} (hi : i < 4) (w : World) : (Instr.index 28 (.agg #[.int .i64 (f 0), .int .i64 (f 1), .int .i64 (f 2), .int .i64 (f 3)]) (.int .i64 (i : Int))).run Tryz.prog w = .ok (.int .i64 (f i)) w := by
  have : i = 0 ∨ i = 1 ∨ i = 2 ∨ i = 3 := by omega
  rcases this with rfl | rfl | rfl | rfl <;> simp [Instr.index, go_sem]

end Go.Proofs.YthimcecbgpamdaaGreat

namespace Go.Proofs.YthimcecbgpamdaaGreat
open Go.RowKit

/-- Truth values as values. -/
def tF (b : Nat → Bool) (i : Nat) : Value := .bool (b i)
theorem tF_one (b : Nat → Bool) (i : Nat) : (tF b i).oneCell' = true := rfl
/-- Four truth values as one value. -/
def boolV (b : Nat → Bool) : Value := .agg #[.bool (b 0), .bool (b 1), .bool (b 2), .bool (b 3)]
/-- The block of four truth values. -/
def B4 (w : World) (p : Nat) (b : Nat → Bool) : Prop := Vh 27 w p 4 4 (tF b)
section
variable {w w' : World} {p : Nat} {b : Nat → Bool}
theorem B4.cell (h : B4 w p b) {i : Nat} (hi : i < 4) : w.cell? ⟨p, i, none⟩ = some (.bool (b i)) := Vh.cell h hi
theorem B4.free (h : B4 w p b) (i : Nat) : w.frozen? ⟨p, i, none⟩ = false := Vh.free h i
theorem B4.lt (h : B4 w p b) : p < w.heap.size := Vh.lt h
theorem B4.below (h : B4 w p b) (k : Below w.heap.size w w') : B4 w' p b := Vh.below h k
theorem B4.under {B : Nat} (h : B4 w p b) (k : Below B w w') (hb : p < B) : B4 w' p b := Vh.same h (k.block p hb)
theorem B4.kept {z : Nat} (h : B4 w p b) (k : Kept z w w') (hz : p ≠ z) : B4 w' p b := Vh.kept h k hz
theorem B4.congr {g : Nat → Bool} (h : B4 w p b) (e : ∀ i, i < 4 → b i = g i) : B4 w p g := Vh.congr h (fun i hi => by unfold tF; rw [e i hi])
theorem B4.set (h : B4 w p b) (i : Nat) (x : Bool) : B4 (w.setCell ⟨p, i, none⟩ (.bool x)) p (fun j => if j = i then x else b j) :=
  Vh.congr (Vh.set h i (.bool x)) (fun j _ => by
    unfold stW tF
    by_cases e : j = i
    · rw [if_pos e]; show _ = Value.bool (if j = i then x else b j); rw [if_pos e]
    · rw [if_neg e]; show _ = Value.bool (if j = i then x else b j); rw [if_neg e])
theorem B4.new (w : World) (b : Nat → Bool) : B4 (w.alloc (.cells #[.bool (b 0), .bool (b 1), .bool (b 2), .bool (b 3)] 27)) w.heap.size b :=
  Vh.new w 27 #[.bool (b 0), .bool (b 1), .bool (b 2), .bool (b 3)] (tF b) (by show 4 ≤ maxLen; decide) (fun i hi => by
    have : i = 0 ∨ i = 1 ∨ i = 2 ∨ i = 3 := by simp at hi; omega
    rcases this with rfl | rfl | rfl | rfl <;> rfl)
end
theorem b4_alloc (w : World) (b : Nat → Bool) : ∃ w1, w1 = w.alloc (.cells #[.bool (b 0), .bool (b 1), .bool (b 2), .bool (b 3)] 27) ∧ B4 w1 w.heap.size b ∧ Below w.heap.size w w1 ∧ w1.heap.size = w.heap.size + 1 :=
  ⟨_, rfl, B4.new w b, al_below w _, al_size w _⟩

/-- A verdict as a value; the block of a verdict's variable. -/
def vdV (X : Int) (S : Bool) (r : Value) : Value := .agg #[.int .i64 X, .bool S, r]
def VdAt (w : World) (b : Nat) (X : Int) (S : Bool) (r : Value) : Prop := w.heap[b]? = some (.cells #[.int .i64 X, .bool S, r] 35 (0, 0))
section
variable {w w' : World} {b : Nat} {X : Int} {S : Bool} {r : Value}
theorem VdAt.cell0 (h : VdAt w b X S r) : w.cell? ⟨b, 0, none⟩ = some (.int .i64 X) := by unfold VdAt at h; unfold World.cell?; rw [h]; rfl
theorem VdAt.cell1 (h : VdAt w b X S r) : w.cell? ⟨b, 1, none⟩ = some (.bool S) := by unfold VdAt at h; unfold World.cell?; rw [h]; rfl
theorem VdAt.cell2 (h : VdAt w b X S r) : w.cell? ⟨b, 2, none⟩ = some r := by unfold VdAt at h; unfold World.cell?; rw [h]; rfl
theorem VdAt.free (h : VdAt w b X S r) (i : Nat) : w.frozen? ⟨b, i, none⟩ = false := by unfold VdAt at h; simp [World.frozen?, h]
theorem VdAt.lt (h : VdAt w b X S r) : b < w.heap.size := lt_of_block h
theorem VdAt.same (h : VdAt w b X S r) (e : w'.heap[b]? = w.heap[b]?) : VdAt w' b X S r := e.trans h
theorem VdAt.below (h : VdAt w b X S r) (k : Below w.heap.size w w') : VdAt w' b X S r := h.same (k.block b h.lt)
theorem VdAt.under {B : Nat} (h : VdAt w b X S r) (k : Below B w w') (hb : b < B) : VdAt w' b X S r := h.same (k.block b hb)
theorem VdAt.kept {z : Nat} (h : VdAt w b X S r) (k : Kept z w w') (hz : b ≠ z) : VdAt w' b X S r := h.same (k.block b h.lt hz)
theorem VdAt.new (w : World) (X : Int) (S : Bool) (r : Value) : VdAt (w.alloc (.cells #[.int .i64 X, .bool S, r] 35)) w.heap.size X S r := by
  unfold VdAt
  show (w.heap.push _)[w.heap.size]? = _
  rw [Array.getElem?_push_size]
theorem VdAt.put (h : VdAt w b X S r) (X' : Int) (S' : Bool) (u : Value) :
    ∃ w', w' = ((w.setCell ⟨b, 0, none⟩ (.int .i64 X')).setCell ⟨b, 1, none⟩ (.bool S')).setCell ⟨b, 2, none⟩ u ∧ VdAt w' b X' S' u ∧ Kept b w w' := by
  refine ⟨_, rfl, ?_, ((kept_set w b 0 _).trans (kept_set _ b 1 _) (Or.inl rfl)).trans (kept_set _ b 2 _) (Or.inl rfl)⟩
  unfold VdAt at h ⊢
  have h1 := heap_setCell_same w b 0 _ _ (.int .i64 X') h
  have h2 := heap_setCell_same _ b 1 _ _ (.bool S') h1
  exact heap_setCell_same _ b 2 _ _ u h2
theorem VdAt.put0 (h : VdAt w b X S r) (X' : Int) : ∃ w', w' = w.setCell ⟨b, 0, none⟩ (.int .i64 X') ∧ VdAt w' b X' S r ∧ Kept b w w' := by
  refine ⟨_, rfl, ?_, kept_set w b 0 _⟩
  unfold VdAt at h ⊢
  exact heap_setCell_same w b 0 _ _ (.int .i64 X') h
theorem VdAt.put1 (h : VdAt w b X S r) (S' : Bool) : ∃ w', w' = w.setCell ⟨b, 1, none⟩ (.bool S') ∧ VdAt w' b X S' r ∧ Kept b w w' := by
  refine ⟨_, rfl, ?_, kept_set w b 1 _⟩
  unfold VdAt at h ⊢
  exact heap_setCell_same w b 1 _ _ (.bool S') h
theorem VdAt.put2 (h : VdAt w b X S r) (u : Value) : ∃ w', w' = w.setCell ⟨b, 2, none⟩ u ∧ VdAt w' b X S u ∧ Kept b w w' := by
  refine ⟨_, rfl, ?_, kept_set w b 2 _⟩
  unfold VdAt at h ⊢
  exact heap_setCell_same w b 2 _ _ u h
end
theorem vd_alloc (w : World) (X : Int) (S : Bool) (r : Value) : ∃ w1, w1 = w.alloc (.cells #[.int .i64 X, .bool S, r] 35) ∧ VdAt w1 w.heap.size X S r ∧ Below w.heap.size w w1 ∧ w1.heap.size = w.heap.size + 1 :=
  ⟨_, rfl, VdAt.new w X S r, al_below w _, al_size w _⟩

/-- What Vote is held to. -/
def VtOK (fn : Nat) : Prop := ∀ (v : Nat → Int) (b : Nat → Bool) (w : World), (∀ i, R64 (v i)) →
  Calls Tryz.prog fn #[fourV v, boolV b] w fun e w' => ∃ (X : Int) (r : Value), IsV v b 4 X ∧ e = .returned (vdV X (vtS v b X) r) ∧ w'.ownsRow w.heap.size 4 1 r 4 (rowV (tF (vtA v b X)) 4) ∧ Below w.heap.size w w'

end Go.Proofs.YthimcecbgpamdaaGreat
