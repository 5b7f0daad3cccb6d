import Derived.Test.YtdhblehhgpdpdacGreatNear127
namespace Go.Proofs.YtdhblehhgpdpdacGreat
open Go.RowKit
section
variable {f : Operand → Value} {o : Oper}
end
theorem LvRd.at {w : World} {c : Lm} (h : LvRd w c) (hl : 0 < c.m.L.length) : ∃ y, c.ao = some y ∧ ∀ i, i < c.m.L.length → w.cell? (y.add i) = some (.int .i64 (gL c.m.L i)) := by
 rcases h.1 with ⟨_, h0, _⟩ | ⟨y, e, hy⟩
 ·omega
 ·exact ⟨y, e, fun i hi => hy i hi⟩
end Go.Proofs.YtdhblehhgpdpdacGreat
namespace Go.Proofs.YtdhblehhgpdpdacGreat
open Go.RowKit
section
variable {f : Operand → Value} {o : Oper}
end
end Go.Proofs.YtdhblehhgpdpdacGreat
