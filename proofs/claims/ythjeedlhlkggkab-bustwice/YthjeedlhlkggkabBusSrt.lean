/- Sorted parcels, cut in two by time; none twice: plain facts. -/
import Derived.Test.YthjeedlhlkggkabBusLd
namespace Go.Proofs.Ythjeedlhlkggkab
open Go.RowKit

theorem insP_left {p : Pc} {A B : List Pc} (h : ∀ b, b ∈ B → leP p b = true) : insP p (A ++ B) = insP p A ++ B := by
  induction A with
  | nil => exact insP_head h
  | cons a A ih =>
    show (if leP p a = true then _ else _) = (if leP p a = true then _ else _) ++ B
    split
    · rfl
    · show a :: insP p (A ++ B) = a :: (insP p A ++ B); rw [ih]
theorem insP_right {p : Pc} {A B : List Pc} (h : ∀ a, a ∈ A → leP p a = false) : insP p (A ++ B) = A ++ insP p B := by
  induction A with
  | nil => rfl
  | cons a A ih =>
    show (if leP p a = true then p :: a :: (A ++ B) else a :: insP p (A ++ B)) = a :: (A ++ insP p B)
    rw [if_neg (by rw [h a (List.mem_cons_self ..)]; decide), ih (fun x hx => h x (List.mem_cons_of_mem _ hx))]
theorem srtP_split {t u : Int} (htu : t ≤ u) (l : List Pc) : srtP (l.filter (dueP u)) = srtP (l.filter (dueP t)) ++ srtP ((l.filter (fun p => !dueP t p)).filter (dueP u)) := by
  induction l with
  | nil => rfl
  | cons p l ih =>
    by_cases h1 : p.du ≤ t
    · have d1 : dueP t p = true := by unfold dueP; simp [h1]
      have d2 : dueP u p = true := by unfold dueP; simp; omega
      rw [List.filter_cons_of_pos d2, List.filter_cons_of_pos d1, List.filter_cons_of_neg (by rw [d1]; decide)]
      show insP p (srtP (l.filter (dueP u))) = insP p (srtP (l.filter (dueP t))) ++ _
      rw [ih, insP_left]
      intro b hb
      have hb2 := (List.mem_filter.1 (List.mem_filter.1 (srtP_mem.1 hb)).1).2
      unfold dueP at hb2
      simp at hb2
      unfold leP; simp; omega
    · have d1 : dueP t p = false := by unfold dueP; simp; omega
      rw [List.filter_cons_of_neg (p := dueP t) (by rw [d1]; decide), List.filter_cons_of_pos (p := fun p => !dueP t p) (by rw [d1]; rfl)]
      by_cases h2 : p.du ≤ u
      · have d2 : dueP u p = true := by unfold dueP; simp [h2]
        rw [List.filter_cons_of_pos d2, List.filter_cons_of_pos d2]
        show insP p (srtP (l.filter (dueP u))) = _ ++ insP p _
        rw [ih, insP_right]
        intro a ha
        have ha2 := (List.mem_filter.1 (srtP_mem.1 ha)).2
        unfold dueP at ha2
        simp at ha2
        unfold leP; simp; omega
      · have d2 : dueP u p = false := by unfold dueP; simp; omega
        rw [List.filter_cons_of_neg (by rw [d2]; decide), List.filter_cons_of_neg (by rw [d2]; decide), ih]
theorem filter_two {t u : Int} (htu : t ≤ u) (l : List Pc) : (l.filter (fun p => !dueP t p)).filter (fun p => !dueP u p) = l.filter (fun p => !dueP u p) := by
  rw [List.filter_filter]
  congr 1
  funext p
  unfold dueP
  by_cases h1 : p.du ≤ t
  · simp [h1]; omega
  · simp [h1]
theorem filter_both (f : Pc → Bool) (l : List Pc) : (l.filter f).length + (l.filter (fun p => !f p)).length = l.length := by
  induction l with
  | nil => rfl
  | cons p l ih =>
    rcases h : f p with _ | _
    · rw [List.filter_cons_of_neg (by rw [h]; decide), List.filter_cons_of_pos (by rw [h]; rfl)]; simp; omega
    · rw [List.filter_cons_of_pos h, List.filter_cons_of_neg (by rw [h]; decide)]; simp; omega
/-- No serial twice. -/
def NoTw (l : List Pc) : Prop := l.Pairwise (fun a b => a.se ≠ b.se)
theorem noTw_ins {p : Pc} {l : List Pc} (h : NoTw l) (hp : ∀ q, q ∈ l → p.se ≠ q.se) : NoTw (insP p l) := by
  induction l with
  | nil => exact List.pairwise_singleton ..
  | cons q l ih =>
    unfold insP
    obtain ⟨h1, h2⟩ := List.pairwise_cons.1 h
    split
    · exact List.pairwise_cons.2 ⟨hp, h⟩
    · refine List.pairwise_cons.2 ⟨fun x hx => ?_, ih h2 (fun x hx => hp x (List.mem_cons_of_mem _ hx))⟩
      rcases insP_mem.1 hx with rfl | hx
      · exact fun e => hp q (List.mem_cons_self ..) e.symm
      · exact h1 x hx
theorem noTw_srt {l : List Pc} (h : NoTw l) : NoTw (srtP l) := by
  induction l with
  | nil => exact List.Pairwise.nil
  | cons p l ih =>
    obtain ⟨h1, h2⟩ := List.pairwise_cons.1 h
    exact noTw_ins (ih h2) (fun q hq => h1 q (srtP_mem.1 hq))
theorem soP_pw {l : List Pc} (h : SoP l) : l.Pairwise (fun a b => leP a b = true) := by
  induction l with
  | nil => exact List.Pairwise.nil
  | cons p l ih => exact List.pairwise_cons.2 ⟨h.1, ih h.2⟩
theorem ldQ_noTw {D : List Ld} {k : Nat} (h : k ≤ D.length) : NoTw (ldQ D k) := by
  unfold NoTw
  rw [List.pairwise_iff_getElem]
  intro i j hi hj hij
  obtain ⟨l, _, e1⟩ := ldQ_at h (List.getElem?_eq_getElem hi)
  obtain ⟨m, _, e2⟩ := ldQ_at h (List.getElem?_eq_getElem hj)
  rw [e1, e2]
  unfold ldP
  dsimp only
  omega
/-- One after the other. -/
theorem srt_strict {l : List Pc} (h : NoTw l) {i : Nat} {x y : Pc} (hy : (srtP l)[i]? = some y) (hx : (srtP l)[i + 1]? = some x) : ¬ x.du < y.du ∧ (y.du = x.du → y.se < x.se) := by
  obtain ⟨l1, e1⟩ := List.getElem?_eq_some_iff.1 hy
  obtain ⟨l2, e2⟩ := List.getElem?_eq_some_iff.1 hx
  have a := List.pairwise_iff_getElem.1 (soP_pw (soP_srt l)) i (i + 1) l1 l2 (by omega)
  have b := List.pairwise_iff_getElem.1 (noTw_srt h) i (i + 1) l1 l2 (by omega)
  rw [e1, e2] at a b
  unfold leP at a
  simp only [decide_eq_true_eq] at a
  omega

end Go.Proofs.Ythjeedlhlkggkab
