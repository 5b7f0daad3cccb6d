/- The first of the least ones that have come: plain facts. -/
import Derived.Test.YthjeedlhlkggkabBusSpec
namespace Go.Proofs.Ythjeedlhlkggkab

/-- The place of the first of the least ones that have come, among the first i; -1 if there is none. -/
def IsBst (t : Int) (l : List Pc) (i : Nat) (k : Int) : Prop :=
  (k = -1 ∧ ∀ j p, j < i → l[j]? = some p → ¬ p.du ≤ t) ∨ ∃ (n : Nat) (m : Pc), k = n ∧ n < i ∧ l[n]? = some m ∧ m.du ≤ t ∧ (∀ j p, j < i → l[j]? = some p → p.du ≤ t → leP m p = true) ∧ ∀ j p, j < n → l[j]? = some p → p.du ≤ t → leP p m = false
theorem isb_start (t : Int) (l : List Pc) : IsBst t l 0 (-1) := Or.inl ⟨rfl, fun j _ h => absurd h (by omega)⟩
theorem isb_late {t : Int} {l : List Pc} {i : Nat} {k : Int} {p : Pc} (h : IsBst t l i k) (hp : l[i]? = some p) (hd : t < p.du) : IsBst t l (i + 1) k := by
  rcases h with ⟨h1, h2⟩ | ⟨n, m, h1, h2, h3, h4, h5, h6⟩
  · refine Or.inl ⟨h1, fun j x hj hx => ?_⟩
    by_cases e : j = i
    · subst e; rw [hp] at hx; cases hx; omega
    · exact h2 j x (by omega) hx
  · refine Or.inr ⟨n, m, h1, by omega, h3, h4, fun j x hj hx hxd => ?_, h6⟩
    by_cases e : j = i
    · subst e; rw [hp] at hx; cases hx; omega
    · exact h5 j x (by omega) hx hxd
theorem isb_first {t : Int} {l : List Pc} {i : Nat} {p : Pc} (h : IsBst t l i (-1)) (hp : l[i]? = some p) (hd : p.du ≤ t) : IsBst t l (i + 1) (i : Nat) := by
  rcases h with ⟨_, h2⟩ | ⟨n, m, h1, _⟩
  · refine Or.inr ⟨i, p, rfl, by omega, hp, hd, fun j x hj hx hxd => ?_, fun j x hj hx hxd => absurd hxd (h2 j x hj hx)⟩
    by_cases e : j = i
    · subst e; rw [hp] at hx; cases hx; exact leP_refl _
    · exact absurd hxd (h2 j x (by omega) hx)
  · omega
theorem isb_less {t : Int} {l : List Pc} {i n : Nat} {p m : Pc} (h : IsBst t l i (n : Nat)) (hm : l[n]? = some m) (hp : l[i]? = some p) (hd : p.du ≤ t) (hl : leP m p = false) : IsBst t l (i + 1) (i : Nat) := by
  rcases h with ⟨h1, _⟩ | ⟨n', m', h1, h2, h3, h4, h5, h6⟩
  · omega
  · have e : n' = n := by omega
    subst e
    rw [hm] at h3; cases h3
    refine Or.inr ⟨i, p, rfl, by omega, hp, hd, fun j x hj hx hxd => ?_, fun j x hj hx hxd => ?_⟩
    · by_cases e : j = i
      · subst e; rw [hp] at hx; cases hx; exact leP_refl _
      · exact leP_trans (leP_total hl) (h5 j x (by omega) hx hxd)
    · rcases ee : leP x p with _ | _
      · rfl
      · rw [leP_trans (h5 j x hj hx hxd) ee] at hl; cases hl
theorem isb_more {t : Int} {l : List Pc} {i n : Nat} {p m : Pc} (h : IsBst t l i (n : Nat)) (hm : l[n]? = some m) (hp : l[i]? = some p) (hl : leP m p = true) : IsBst t l (i + 1) (n : Nat) := by
  rcases h with ⟨h1, _⟩ | ⟨n', m', h1, h2, h3, h4, h5, h6⟩
  · omega
  · have e : n' = n := by omega
    subst e
    rw [hm] at h3; cases h3
    refine Or.inr ⟨n', m, rfl, by omega, hm, h4, fun j x hj hx hxd => ?_, h6⟩
    by_cases e : j = i
    · subst e; rw [hp] at hx; cases hx; exact hl
    · exact h5 j x (by omega) hx hxd
theorem isb_at {t : Int} {l : List Pc} {i : Nat} {k : Int} (h : IsBst t l i k) (hk : k ≠ -1) : ∃ (n : Nat) (m : Pc), k = n ∧ n < i ∧ l[n]? = some m ∧ m.du ≤ t := by
  rcases h with ⟨h1, _⟩ | ⟨n, m, h1, h2, h3, h4, _⟩
  · exact absurd h1 hk
  · exact ⟨n, m, h1, h2, h3, h4⟩
theorem isb_none {t : Int} {l : List Pc} (h : IsBst t l l.length (-1)) : l.filter (dueP t) = [] ∧ l.filter (fun p => !dueP t p) = l := by
  rcases h with ⟨_, h⟩ | ⟨n, m, h1, _⟩
  · have hh : ∀ p, p ∈ l → dueP t p = false := fun p hp => by
      obtain ⟨j, hj⟩ := List.getElem?_of_mem hp
      have := h j p (List.getElem?_eq_some_iff.1 hj).1 hj
      unfold dueP; simp; omega
    exact ⟨List.filter_eq_nil_iff.2 (fun p hp => by rw [hh p hp]; decide), List.filter_eq_self.2 (fun p hp => by rw [hh p hp]; rfl)⟩
  · omega
theorem isb_some {t : Int} {l : List Pc} {n : Nat} {m : Pc} (h : IsBst t l l.length (n : Nat)) (hm : l[n]? = some m) :
    srtP (l.filter (dueP t)) = m :: srtP ((l.eraseIdx n).filter (dueP t)) ∧ (l.eraseIdx n).filter (fun p => !dueP t p) = l.filter (fun p => !dueP t p) := by
  rcases h with ⟨h1, _⟩ | ⟨n', m', h1, h2, h3, h4, h5, h6⟩
  · omega
  · have e : n' = n := by omega
    subst e
    rw [hm] at h3; cases h3
    have hs : l = l.take n' ++ m :: l.drop (n' + 1) := by
      have := (List.take_append_drop n' l).symm
      rw [List.drop_eq_getElem_cons h2] at this
      rw [(List.getElem?_eq_some_iff.1 hm).2] at this
      exact this
    have hdm : dueP t m = true := by unfold dueP; simp [h4]
    rw [List.eraseIdx_eq_take_drop_succ]
    have f1 : l.filter (dueP t) = (l.take n').filter (dueP t) ++ m :: (l.drop (n' + 1)).filter (dueP t) := by
      conv => lhs; rw [hs]
      rw [List.filter_append, List.filter_cons_of_pos hdm]
    have f2 : l.filter (fun p => !dueP t p) = (l.take n').filter (fun p => !dueP t p) ++ (l.drop (n' + 1)).filter (fun p => !dueP t p) := by
      conv => lhs; rw [hs]
      rw [List.filter_append, List.filter_cons_of_neg (by rw [hdm]; decide)]
    refine ⟨?_, by rw [List.filter_append, f2]⟩
    rw [f1, List.filter_append]
    refine srtP_first _ _ _ (fun a ha => ?_) (fun c hc => ?_)
    · obtain ⟨ha1, ha2⟩ := List.mem_filter.1 ha
      obtain ⟨j, hj⟩ := List.getElem?_of_mem ha1
      have hjn : j < n' := by have := (List.getElem?_eq_some_iff.1 hj).1; rw [List.length_take] at this; omega
      rw [List.getElem?_take_of_lt hjn] at hj
      exact h6 j a hjn hj (by unfold dueP at ha2; simpa using ha2)
    · obtain ⟨hc1, hc2⟩ := List.mem_filter.1 hc
      obtain ⟨j, hj⟩ := List.getElem?_of_mem (List.mem_of_mem_drop hc1)
      exact h5 j c (List.getElem?_eq_some_iff.1 hj).1 hj (by unfold dueP at hc2; simpa using hc2)

end Go.Proofs.Ythjeedlhlkggkab
