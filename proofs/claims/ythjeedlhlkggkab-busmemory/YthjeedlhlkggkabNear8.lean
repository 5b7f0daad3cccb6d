/- Joined: RefSnd, RefLos, BusSel. -/
import Derived.Test.YthjeedlhlkggkabNear3
import Derived.Test.YthjeedlhlkggkabNear11
import Derived.Test.YthjeedlhlkggkabBusCut
import Derived.Test.YthjeedlhlkggkabNear9
namespace Go.Proofs.Ythjeedlhlkggkab
open Go.RowKit

/-- A bus in a variable, and a result. -/
theorem bu_pair (w : World) (N S : Int) (u : Value) : ∃ w1, w1 = ((w.alloc (.cells #[.int .i64 N, .int .i64 S, u] 25)).alloc (.cells #[.int .i64 0, .int .i64 0, .slice none 0 0] 25)) ∧ BuAt w1 w.heap.size N S u ∧ BuAt w1 (w.heap.size + 1) 0 0 (.slice none 0 0) ∧ Below w.heap.size w w1 ∧ w1.heap.size = w.heap.size + 1 + 1 := by
  obtain ⟨w1, e1, m1, k1, s1⟩ := bu_alloc w N S u
  obtain ⟨w2, e2, m2, k2, s2⟩ := bu_alloc w1 0 0 (.slice none 0 0)
  subst e1
  rw [s1] at m2
  exact ⟨w2, e2, m1.below k2, m2, k1.trans (k2.mono (by omega)), by omega⟩
theorem snd_no {b : Bs} {f t d : Int} {ds : List Nat} {w w' : World} {e : Nat} (he : sendE b.now b.q.length f t d ds.length = e) (h0 : e ≠ 0) (k : Below w.heap.size w w') :
    ∃ (ao' : Option Addr) (cap' : Nat) (L' : List Lp), Ending.returned (.tuple #[.agg #[.int .i64 0, .int .i64 0, .slice none 0 0], .int .i64 (e : Nat)]) = .returned (.tuple #[busV (sendS b f t ds d).now (sendS b f t ds d).ser (.slice ao' L'.length cap'), .int .i64 (sendE b.now b.q.length f t d ds.length : Nat)]) ∧ These L' (sendS b f t ds d).q ∧ BNew w.heap.size w' ao' cap' L' ∧ Below w.heap.size w w' := by
  have hz : sendS b f t ds d = zeroBs := by unfold sendS; rw [if_neg (by rw [he]; exact h0)]
  rw [hz, he]
  exact ⟨none, 0, [], rfl, rfl, bnew_nil _ _, k⟩
theorem snd_yes {b : Bs} {f t d : Int} {ds : List Nat} {w w' : World} (he : sendE b.now b.q.length f t d ds.length = 0) {ao : Option Addr} {cap : Nat} {L : List Lp} {B : Nat} (o : OwnQ w' B (.slice ao L.length cap) L) (hB : w.heap.size ≤ B) (ht : These L (b.q ++ [⟨f, t, b.now + d, b.ser, ds⟩])) (k : Below w.heap.size w w') {X : Int} (hX : X = wrapS b.ser) {n : Nat} (hn : L.length = n) :
    ∃ (ao' : Option Addr) (cap' : Nat) (L' : List Lp), Ending.returned (.tuple #[.agg #[.int .i64 b.now, .int .i64 X, .slice ao n cap], .int .i64 0]) = .returned (.tuple #[busV (sendS b f t ds d).now (sendS b f t ds d).ser (.slice ao' L'.length cap'), .int .i64 (sendE b.now b.q.length f t d ds.length : Nat)]) ∧ These L' (sendS b f t ds d).q ∧ BNew w.heap.size w' ao' cap' L' ∧ Below w.heap.size w w' := by
  have hz : sendS b f t ds d = ⟨b.now, wrapS b.ser, b.q ++ [⟨f, t, b.now + d, b.ser, ds⟩]⟩ := by unfold sendS; rw [if_pos he]
  rw [hz, he, hX, ← hn]
  exact ⟨ao, cap, L, rfl, ht, o.new.weak hB, k⟩
/-- What Send reads while it appends. -/
def SnI (w : World) (g : Nat) (N S : Int) (u v : Value) (W : World) : Prop := BuAt W w.heap.size N S u ∧ BuAt W g N S v

end Go.Proofs.Ythjeedlhlkggkab

namespace Go.Proofs.Ythjeedlhlkggkab
open Go.RowKit

/-- What lies in memory while a bus is gone through. -/
def LsI (w : World) (g : Nat) (N S : Int) (v : Value) (M : List Lp) (W : World) : Prop :=
  BuAt W (w.heap.size + 1) 0 0 (.slice none 0 0) ∧ BuAt W g N S v ∧ OwnQ W (w.heap.size + 1 + 1) v M ∧ Below w.heap.size w W ∧ w.heap.size + 1 + 1 ≤ g
section
variable {w W W' : World} {g : Nat} {N S : Int} {v : Value} {M : List Lp}
theorem LsI.below (h : LsI w g N S v M W) (k : Below W.heap.size W W') : LsI w g N S v M W' :=
  ⟨h.1.below k, h.2.1.below k, h.2.2.1.below k, h.2.2.2.1.trans (k.mono h.2.2.2.1.size), h.2.2.2.2⟩
end
theorem own_some {w : World} {t : TypeId} {B n cap s : Nat} {ao : Option Addr} {xs : List Value} (h : w.ownsRow B t s (.slice ao n cap) n xs) (hn : 0 < n) : ∃ g, ao = some ⟨g, 0, none⟩ := by
  rcases h.2 with ⟨_, h0⟩ | ⟨g, c, cur, e, _⟩
  · omega
  · cases e; exact ⟨g, rfl⟩
theorem los_no {b : Bs} {s : Int} {w w' : World} (h : ¬ fsP s b.q < b.q.length) (k : Below w.heap.size w w') :
    ∃ (ao' : Option Addr) (cap' : Nat) (L' : List Lp), Ending.returned (.tuple #[.agg #[.int .i64 0, .int .i64 0, .slice none 0 0], .int .i64 7]) = .returned (.tuple #[busV (loseS b s).now (loseS b s).ser (.slice ao' L'.length cap'), .int .i64 (loseE b s : Nat)]) ∧ These L' (loseS b s).q ∧ BNew w.heap.size w' ao' cap' L' ∧ Below w.heap.size w w' := by
  have hz : loseS b s = zeroBs := by unfold loseS; rw [if_neg h]
  have he : loseE b s = 7 := by unfold loseE; rw [if_neg h]
  rw [hz, he]
  exact ⟨none, 0, [], rfl, rfl, bnew_nil _ _, k⟩
theorem these_erase {M : List Lp} {q : List Pc} (h : These M q) (i : Nat) : These (M.eraseIdx i) (q.eraseIdx i) := by
  unfold These at *
  rw [← h]
  rw [List.eraseIdx_eq_take_drop_succ, List.eraseIdx_eq_take_drop_succ, List.map_append, List.map_take, List.map_drop]
theorem los_yes {b : Bs} {s : Int} {w w' : World} {i : Nat} (h : fsP s b.q = i) (hi : i < b.q.length) {ao : Option Addr} {cap n B : Nat} {M : List Lp} (hM : These M b.q) (o : OwnQ w' B (.slice ao n cap) (M.eraseIdx i)) (hn : n = (M.eraseIdx i).length) (hB : w.heap.size ≤ B) (k : Below w.heap.size w w') :
    ∃ (ao' : Option Addr) (cap' : Nat) (L' : List Lp), Ending.returned (.tuple #[.agg #[.int .i64 b.now, .int .i64 b.ser, .slice ao n cap], .int .i64 0]) = .returned (.tuple #[busV (loseS b s).now (loseS b s).ser (.slice ao' L'.length cap'), .int .i64 (loseE b s : Nat)]) ∧ These L' (loseS b s).q ∧ BNew w.heap.size w' ao' cap' L' ∧ Below w.heap.size w w' := by
  have hz : loseS b s = ⟨b.now, b.ser, b.q.eraseIdx i⟩ := by unfold loseS; rw [h, if_pos hi]
  have he : loseE b s = 0 := by unfold loseE; rw [h, if_pos hi]
  rw [hz, he]
  subst hn
  exact ⟨ao, cap, _, rfl, these_erase hM i, o.new.weak hB, k⟩

end Go.Proofs.Ythjeedlhlkggkab

namespace Go.Proofs.Ythjeedlhlkggkab

/-- The place of the first of the least ones that have come, among the first i; -1 if there is none. -/
def IsBst (t : Int) (l : List Pc) (i : Nat) (k : Int) : Prop :=
  (k = -1 ∧ ∀ j p, j < i → l[j]? = some p → ¬ p.du ≤ t) ∨ ∃ (n : Nat) (m : Pc), k = n ∧ n < i ∧ l[n]? = some m ∧ m.du ≤ t ∧ (∀ j p, j < i → l[j]? = some p → p.du ≤ t → leP m p = true) ∧ ∀ j p, j < n → l[j]? = some p → p.du ≤ t → leP p m = false
theorem isb_start (t : Int) (l : List Pc) : IsBst t l 0 (-1) := Or.inl ⟨rfl, fun j _ h => absurd h (by omega)⟩
theorem isb_late {t : Int} {l : List Pc} {i : Nat} {k : Int} {p : Pc} (h : IsBst t l i k) (hp : l[i]? = some p) (hd : t < p.du) : IsBst t l (i + 1) k := by
  rcases h with ⟨h1, h2⟩ | ⟨n, m, h1, h2, h3, h4, h5, h6⟩
  · refine Or.inl ⟨h1, fun j x hj hx => ?_⟩
    by_cases e : j = i
    · subst e; rw [hp] at hx; cases hx; omega
    · exact h2 j x (by omega) hx
  · refine Or.inr ⟨n, m, h1, by omega, h3, h4, fun j x hj hx hxd => ?_, h6⟩
    by_cases e : j = i
    · subst e; rw [hp] at hx; cases hx; omega
    · exact h5 j x (by omega) hx hxd
theorem isb_first {t : Int} {l : List Pc} {i : Nat} {p : Pc} (h : IsBst t l i (-1)) (hp : l[i]? = some p) (hd : p.du ≤ t) : IsBst t l (i + 1) (i : Nat) := by
  rcases h with ⟨_, h2⟩ | ⟨n, m, h1, _⟩
  · refine Or.inr ⟨i, p, rfl, by omega, hp, hd, fun j x hj hx hxd => ?_, fun j x hj hx hxd => absurd hxd (h2 j x hj hx)⟩
    by_cases e : j = i
    · subst e; rw [hp] at hx; cases hx; exact leP_refl _
    · exact absurd hxd (h2 j x (by omega) hx)
  · omega
theorem isb_less {t : Int} {l : List Pc} {i n : Nat} {p m : Pc} (h : IsBst t l i (n : Nat)) (hm : l[n]? = some m) (hp : l[i]? = some p) (hd : p.du ≤ t) (hl : leP m p = false) : IsBst t l (i + 1) (i : Nat) := by
  rcases h with ⟨h1, _⟩ | ⟨n', m', h1, h2, h3, h4, h5, h6⟩
  · omega
  · have e : n' = n := by omega
    subst e
    rw [hm] at h3; cases h3
    refine Or.inr ⟨i, p, rfl, by omega, hp, hd, fun j x hj hx hxd => ?_, fun j x hj hx hxd => ?_⟩
    · by_cases e : j = i
      · subst e; rw [hp] at hx; cases hx; exact leP_refl _
      · exact leP_trans (leP_total hl) (h5 j x (by omega) hx hxd)
    · rcases ee : leP x p with _ | _
      · rfl
      · rw [leP_trans (h5 j x hj hx hxd) ee] at hl; cases hl
theorem isb_more {t : Int} {l : List Pc} {i n : Nat} {p m : Pc} (h : IsBst t l i (n : Nat)) (hm : l[n]? = some m) (hp : l[i]? = some p) (hl : leP m p = true) : IsBst t l (i + 1) (n : Nat) := by
  rcases h with ⟨h1, _⟩ | ⟨n', m', h1, h2, h3, h4, h5, h6⟩
  · omega
  · have e : n' = n := by omega
    subst e
    rw [hm] at h3; cases h3
    refine Or.inr ⟨n', m, rfl, by omega, hm, h4, fun j x hj hx hxd => ?_, h6⟩
    by_cases e : j = i
    · subst e; rw [hp] at hx; cases hx; exact hl
    · exact h5 j x (by omega) hx hxd
theorem isb_at {t : Int} {l : List Pc} {i : Nat} {k : Int} (h : IsBst t l i k) (hk : k ≠ -1) : ∃ (n : Nat) (m : Pc), k = n ∧ n < i ∧ l[n]? = some m ∧ m.du ≤ t := by
  rcases h with ⟨h1, _⟩ | ⟨n, m, h1, h2, h3, h4, _⟩
  · exact absurd h1 hk
  · exact ⟨n, m, h1, h2, h3, h4⟩
theorem isb_none {t : Int} {l : List Pc} (h : IsBst t l l.length (-1)) : l.filter (dueP t) = [] ∧ l.filter (fun p => !dueP t p) = l := by
  rcases h with ⟨_, h⟩ | ⟨n, m, h1, _⟩
  · have hh : ∀ p, p ∈ l → dueP t p = false := fun p hp => by
      obtain ⟨j, hj⟩ := List.getElem?_of_mem hp
      have := h j p (List.getElem?_eq_some_iff.1 hj).1 hj
      unfold dueP; simp; omega
    exact ⟨List.filter_eq_nil_iff.2 (fun p hp => by rw [hh p hp]; decide), List.filter_eq_self.2 (fun p hp => by rw [hh p hp]; rfl)⟩
  · omega
theorem isb_some {t : Int} {l : List Pc} {n : Nat} {m : Pc} (h : IsBst t l l.length (n : Nat)) (hm : l[n]? = some m) :
    srtP (l.filter (dueP t)) = m :: srtP ((l.eraseIdx n).filter (dueP t)) ∧ (l.eraseIdx n).filter (fun p => !dueP t p) = l.filter (fun p => !dueP t p) := by
  rcases h with ⟨h1, _⟩ | ⟨n', m', h1, h2, h3, h4, h5, h6⟩
  · omega
  · have e : n' = n := by omega
    subst e
    rw [hm] at h3; cases h3
    have hs : l = l.take n' ++ m :: l.drop (n' + 1) := by
      have := (List.take_append_drop n' l).symm
      rw [List.drop_eq_getElem_cons h2] at this
      rw [(List.getElem?_eq_some_iff.1 hm).2] at this
      exact this
    have hdm : dueP t m = true := by unfold dueP; simp [h4]
    rw [List.eraseIdx_eq_take_drop_succ]
    have f1 : l.filter (dueP t) = (l.take n').filter (dueP t) ++ m :: (l.drop (n' + 1)).filter (dueP t) := by
      conv => lhs; rw [hs]
      rw [List.filter_append, List.filter_cons_of_pos hdm]
    have f2 : l.filter (fun p => !dueP t p) = (l.take n').filter (fun p => !dueP t p) ++ (l.drop (n' + 1)).filter (fun p => !dueP t p) := by
      conv => lhs; rw [hs]
      rw [List.filter_append, List.filter_cons_of_neg (by rw [hdm]; decide)]
    refine ⟨?_, by rw [List.filter_append, f2]⟩
    rw [f1, List.filter_append]
    refine srtP_first _ _ _ (fun a ha => ?_) (fun c hc => ?_)
    · obtain ⟨ha1, ha2⟩ := List.mem_filter.1 ha
      obtain ⟨j, hj⟩ := List.getElem?_of_mem ha1
      have hjn : j < n' := by have := (List.getElem?_eq_some_iff.1 hj).1; rw [List.length_take] at this; omega
      rw [List.getElem?_take_of_lt hjn] at hj
      exact h6 j a hjn hj (by unfold dueP at ha2; simpa using ha2)
    · obtain ⟨hc1, hc2⟩ := List.mem_filter.1 hc
      obtain ⟨j, hj⟩ := List.getElem?_of_mem (List.mem_of_mem_drop hc1)
      exact h5 j c (List.getElem?_eq_some_iff.1 hj).1 hj (by unfold dueP at hc2; simpa using hc2)

end Go.Proofs.Ythjeedlhlkggkab
