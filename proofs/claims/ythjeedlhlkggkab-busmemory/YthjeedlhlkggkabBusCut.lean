/- A parcel cut out of a row; parcels appended to a row whose bytes lie elsewhere. -/
import Derived.Test.YthjeedlhlkggkabBusOps
import Derived.OwnWalk
namespace Go.Proofs.Ythjeedlhlkggkab
open Go.RowKit

theorem lpL_take (L : List Lp) : ∀ i, (lpL L).take (i * 5) = lpL (L.take i) := by
  induction L with
  | nil => intro i; simp [lpL]
  | cons c l ih =>
    intro i
    cases i with
    | zero => simp [lpL]
    | succ i =>
      show (lpC c ++ lpL l).take ((i + 1) * 5) = lpC c ++ lpL (l.take i)
      rw [List.take_append, List.take_of_length_le (by show 5 ≤ _; omega), show (i + 1) * 5 - (lpC c).length = i * 5 by show _ - 5 = _; omega, ih i]
theorem lpL_drop (L : List Lp) : ∀ i, (lpL L).drop (i * 5) = lpL (L.drop i) := by
  induction L with
  | nil => intro i; simp [lpL]
  | cons c l ih =>
    intro i
    cases i with
    | zero => simp
    | succ i =>
      show (lpC c ++ lpL l).drop ((i + 1) * 5) = lpL (l.drop i)
      rw [List.drop_append, List.drop_of_length_le (by show 5 ≤ _; omega), List.nil_append, show (i + 1) * 5 - (lpC c).length = i * 5 by show _ - 5 = _; omega, ih i]
theorem run_topP {f : Operand → Value} {o : Oper} (x y : Operand) (ho : o.op = .slice 23 x none (some y) none) {a : Addr} {n c m : Nat} (hx : f x = .slice (some a) n c) (hy : f y = .int .i64 (m : Nat)) (h1 : m ≤ n) (h2 : n ≤ c) (w : World) :
    (execOp f o).run Try.prog w = .ok (.value (.slice (some a) m c)) w := by
  have hm : (m : Int) ≤ (c : Int) := by omega
  unfold execOp
  rw [ho]
  dsimp only
  rw [hx]
  go_simp
/-- From a place on: where nothing is left, the address is no matter. -/
def lowA (b off m c : Nat) : Addr := if m = c then ⟨b, off, none⟩ else ⟨b, off + m * 5, none⟩
theorem lowA_in {b off m c n : Nat} (h : m < n) (k : n ≤ c) : lowA b off m c = ⟨b, off + m * 5, none⟩ := if_neg (by omega)
theorem run_lowP {f : Operand → Value} {o : Oper} (x y : Operand) (ho : o.op = .slice 23 x (some y) none none) {b off n c m : Nat} (hx : f x = .slice (some ⟨b, off, none⟩) n c) (hy : f y = .int .i64 (m : Nat)) (h1 : m ≤ n) (h2 : n ≤ c) (w : World) :
    (execOp f o).run Try.prog w = .ok (.value (.slice (some (lowA b off m c)) (n - m) (c - m))) w := by
  unfold lowA
  unfold execOp
  rw [ho]
  dsimp only
  rw [hx]
  by_cases e : m = c
  · subst e
    go_simp
  · rw [if_neg e]
    go_simp
    intro h; omega
/-- The row of parcels, without the bytes. -/
def RowP (w : World) (B : Nat) (v : Value) (L : List Lp) : Prop := w.ownsRow B 32 5 v L.length (lpL L)
theorem RowP.pre {w : World} {B g cap n : Nat} {L : List Lp} (h : RowP w B (.slice (some ⟨g, 0, none⟩) n cap) L) {i : Nat} (hi : i ≤ L.length) : RowP w B (.slice (some ⟨g, 0, none⟩) i cap) (L.take i) := by
  rcases h.2 with ⟨e, _⟩ | ⟨g', c', cur, e, hb, hg, h1, h2, h3, h4⟩
  · cases e
  · cases e
    have el : (L.take i).length = i := by rw [List.length_take]; omega
    refine ⟨by rw [lpL_len], Or.inr ⟨g, cap, cur, by rw [el], hb, hg, by rw [el]; omega, h2, h3, ?_⟩⟩
    rw [el, ← lpL_take, ← h4, List.take_take, Nat.min_eq_left (Nat.mul_le_mul_right 5 hi)]
/-- One parcel cut out. -/
theorem wp_cutP (w : World) {o : Oper} {a : Act} {K : Act → World → Prop} {Q : Exit → Act → World → Prop} (s x : Operand)
    (ho : o.op = .call { callee := .builtin .append, args := #[s, x], argTypes := #[23, 23] }) (B : Nat)
    (g cap i : Nat) (L : List Lp) (hi : i < L.length) (hcap : L.length ≤ cap) (hs : a.eval s = .slice (some ⟨g, 0, none⟩) i cap) (hx : a.eval x = .slice (some (lowA g 0 (i + 1) cap)) (L.length - (i + 1)) (cap - (i + 1))) (hown : RowP w B (.slice (some ⟨g, 0, none⟩) L.length cap) L)
    (h : ∀ w', RowP w' B (.slice (some ⟨g, 0, none⟩) (L.length - 1) cap) (L.eraseIdx i) → w.grownBy w' (some g) → K (a.put o.dst (.slice (some ⟨g, 0, none⟩) (L.length - 1) cap)) w') : o.wp Try.prog a w K Q := by
  obtain ⟨i0, hi0, hz0, hz1, hz2⟩ := info_parts infoPc
  have hp := hown.pre (i := i) (by omega)
  have el : (L.take i).length = i := by rw [List.length_take]; omega
  unfold RowP at hp
  rw [el] at hp
  have hnews : ∀ j u, (lpL (L.drop (i + 1)))[j]? = some u → w.cell? ((lowA g 0 (i + 1) cap).add j) = some u := by
    intro j u hj
    by_cases e : i + 1 < L.length
    · rw [lowA_in e hcap, Addr.add_lit]
      have := hown.cells (g := g) rfl ((i + 1) * 5 + j) u (by rw [← lpL_drop, List.getElem?_drop] at hj; exact hj)
      rw [Addr.add_lit, ← Nat.add_assoc] at this
      exact this
    · rw [List.drop_of_length_le (by omega)] at hj
      cases hj
  have hrun := run_append_fits (P := Try.prog) w B 23 o.type 32 i0 5 Try.underlying23 hi0 hz1 g i cap (lpL (L.take i)) hp (lowA g 0 (i + 1) cap) (L.length - (i + 1)) (cap - (i + 1)) (lpL (L.drop (i + 1))) (by rw [lpL_len, List.length_drop]) hnews lpL_one (by omega)
  obtain ⟨w', hr, ho2, hg2⟩ := hrun
  rw [show i + (L.length - (i + 1)) = L.length - 1 by omega] at hr ho2
  have hh := h w' (by
    unfold RowP
    rw [List.length_eraseIdx_of_lt hi, List.eraseIdx_eq_take_drop_succ, lpL_append]
    exact ho2) hg2
  unfold Oper.wp execOp
  simp only [ho, resolve, invoke, builtin, Sem.run_bind, Sem.run_pure, Result.andThen_ok, List.map_toArray, List.map_cons, List.map_nil, hs, hx, hr]
  exact hh

/-- One parcel appended to a row, its bytes lying where they lie. -/
theorem wpList_joinR (w : World) {ops : Array Oper} {rest : List Oper} {o : Oper} {a : Act} {Q : Exit → Act → World → Prop} (hgd : o.guard = none) (s x : Operand)
    (ho : o.op = .call { callee := .builtin .append, args := #[s, x], argTypes := #[23, 23] }) (B : Nat) (hB : B ≤ w.heap.size)
    (v : Value) (L : List Lp) (hs : a.eval s = v) (hown : RowP w B v L) (b : Nat) (c : Lp) (hx : a.eval x = .slice (some ⟨b, 0, none⟩) 1 1) (hc : PcAt w b 0 c.p (lpV c)) (hl : L.length ≤ 2513169434843)
    (h : ∀ v' w', RowP w' B v' (L ++ [c]) → w.grownBy w' v.ownBlock → wpList Try.prog ops Q rest (a.put o.dst v') w') : wpList Try.prog ops Q (o :: rest) a w := by
  obtain ⟨i0, hi, hz0, hz1, hz2⟩ := info_parts infoPc
  refine wpList_append_own (P := Try.prog) w hgd s x 23 ho B 32 i0 (.agg #[.int .i64 0, .int .i64 0, .int .i64 0, .int .i64 0, .slice none 0 0]) 5 56 Try.underlying23 hi hz0 hz1 hz2 rfl (by decide) v L.length (lpL L) hs hown ⟨b, 0, none⟩ 1 1 (lpL [c]) hx rfl ?_ lpL_one (by unfold maxLen; omega) (by omega) hB ?_
  · intro j u hj
    rw [Addr.add_lit, Nat.zero_add]
    obtain ⟨p0, p1, p2, p3, p4⟩ := hc
    match j with
    | 0 => simp [lpL, lpC] at hj; subst hj; exact p0
    | 1 => simp [lpL, lpC] at hj; subst hj; exact p1
    | 2 => simp [lpL, lpC] at hj; subst hj; exact p2
    | 3 => simp [lpL, lpC] at hj; subst hj; exact p3
    | 4 => simp [lpL, lpC] at hj; subst hj; exact p4
    | j + 5 => simp [lpL, lpC] at hj
  · intro v' w2 ho2 hgr _
    exact h v' w2 (by unfold RowP; rw [List.length_append, lpL_append]; exact ho2) hgr
theorem run_eqP {f : Operand → Value} {o : Oper} (x y : Operand) (ho : o.op = .binOp .eql 3 x y 3) {u v : Int} {b : Bool} (hx : f x = .int .i64 u) (hy : f y = .int .i64 v) (hb : (u == v) = b) (w : World) : (execOp f o).run Try.prog w = .ok (.value (.bool b)) w := by
  subst hb
  unfold execOp
  rw [ho]
  dsimp only
  rw [hx, hy]
  go_simp
theorem wanted_u {o oj : Oper} {ops : Array Oper} {a : Act} {j d : Nat} {b : Bool} (hg : o.guard = some (j, b)) (hj : ops[j]? = some oj) (hd : oj.dst = some d) (hv : a.eval (.tmp d) = undef) : Region.wanted o (yielded ops a.tmps) = false := by
  have h2 : a.tmps.getD d undef = undef := hv
  have e : yielded ops a.tmps j = none := by
    unfold yielded
    rw [hj]
    simp only [Option.bind_some, hd]
    rcases Nat.lt_or_ge d a.tmps.size with h | h
    · have : a.tmps[d]? = some undef := by simp [h] at h2 ⊢; exact h2
      rw [this]; rfl
    · rw [Array.getElem?_eq_none h]
  simp [Region.wanted, hg, e]

end Go.Proofs.Ythjeedlhlkggkab
