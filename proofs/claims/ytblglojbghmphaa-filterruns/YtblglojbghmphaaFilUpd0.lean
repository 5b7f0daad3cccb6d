/- Contract of package filter's hand: update, plain. -/
import Derived.Test.YtblglojbghmphaaFilTake
namespace Go.Proofs.Ytblglojbghmphaa
open Go.RowKit

theorem St.Ok.bend {s : St} (h : s.Ok) (x : Bool) : (s.bend x).Ok := ⟨h.X, h.V, h.P00, h.P01, h.P11, h.M⟩
theorem overB_low {s : St} {z r gate : Int} (h : offW s r ≤ 0) : overB s z r gate = true := by unfold overB; rw [decide_eq_true h, Bool.true_or]
theorem overB_high {s : St} {z r gate : Int} (h : muV gate (offW s r) < muV (offY s z) (offY s z)) : overB s z r gate = true := by unfold overB; rw [decide_eq_true h, Bool.or_true]
theorem overB_not {s : St} {z r gate : Int} (h : ¬ offW s r ≤ 0) (h2 : ¬ muV gate (offW s r) < muV (offY s z) (offY s z)) : overB s z r gate = false := by unfold overB; rw [decide_eq_false h, decide_eq_false h2]; rfl
/-- The state is put back, with one more reading passed over. -/
theorem SAt.back {w : World} {b : Nat} {s : St} (h : SAt w b s) (t : St) : ∃ w', w' = (((((((w.setCell ⟨b, 0, none⟩ (.int .i64 t.X)).setCell ⟨b, 1, none⟩ (.int .i64 t.V)).setCell ⟨b, 2, none⟩ (.int .i64 t.P00)).setCell ⟨b, 3, none⟩ (.int .i64 t.P01)).setCell ⟨b, 4, none⟩ (.int .i64 t.P11)).setCell ⟨b, 5, none⟩ (.bool t.B)).setCell ⟨b, 6, none⟩ (.int .i64 t.M)).setCell ⟨b, 6, none⟩ (.int .i64 (wrap64 (t.M + 1))) ∧ SAt w' b (t.setM (moreM t.M)) ∧ Kept b w w' := by
  obtain ⟨w1, e1, h1, k1⟩ := h.put t
  obtain ⟨w2, e2, h2, k2⟩ := h1.pM (moreM t.M)
  exact ⟨w2, by rw [e2, e1]; rfl, h2, k1.trans k2 (Or.inl rfl)⟩


end Go.Proofs.Ytblglojbghmphaa
