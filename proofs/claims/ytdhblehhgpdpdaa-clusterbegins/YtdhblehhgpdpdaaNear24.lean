import Derived.Test.YtdhblehhgpdpdaaNodOK
namespace Go.Proofs.Ytdhblehhgpdpdaa
open Go.RowKit
section
variable {f : Operand → Value} {o : Oper}
theorem run_extA (x : Operand) (ho : o.op = .extract x 0) {u v : Value} (hx : f x = .tuple #[u, v]) (w : World) : (execOp f o).run Try.prog w = .ok (.value u) w := by
 unfold execOp
 rw [ho]
 dsimp only
 rw [hx]
 rfl
theorem run_extB (x : Operand) (ho : o.op = .extract x 1) {u v : Value} (hx : f x = .tuple #[u, v]) (w : World) : (execOp f o).run Try.prog w = .ok (.value v) w := by
 unfold execOp
 rw [ho]
 dsimp only
 rw [hx]
 rfl
end
theorem LvRd.at {w : World} {c : Lm} (h : LvRd w c) (hl : 0 < c.m.L.length) : ∃ y, c.ao = some y ∧ ∀ i, i < c.m.L.length → w.cell? (y.add i) = some (.int .i64 (gL c.m.L i)) := by
 rcases h.1 with ⟨_, h0, _⟩ | ⟨y, e, hy⟩
 ·omega
 ·exact ⟨y, e, fun i hi => hy i hi⟩
end Go.Proofs.Ytdhblehhgpdpdaa
namespace Go.Proofs.Ytdhblehhgpdpdaa
open Go.RowKit
theorem manySt : Many Try.prog 26 7 := Many.of _ Try.underlying26 rfl (by kernel_rfl)
theorem manyRl : Many Try.prog 31 12 := Many.of _ Try.underlying31 rfl (by kernel_rfl)
section
variable {f : Operand → Value} {o : Oper}
theorem run_geqI {b : Bool} (x y : Operand) (ho : o.op = .binOp .geq 3 x y 3) {u v : Int} (hx : f x = .int .i64 u) (hy : f y = .int .i64 v) (hb : decide (v ≤ u) = b) (w : World) : (execOp f o).run Try.prog w = .ok (.value (.bool b)) w := by
 subst hb
 unfold execOp
 rw [ho]
 dsimp only
 rw [hx, hy]
 go_simp
theorem run_loadPe {P : Program} (ty : TypeId) (x : Operand) (ho : o.op = .load ty x) {b k n N cap : Nat} {t : TypeId} {g h : Nat → Value} (T : Many P ty n) (hx : f x = .pointer (some ⟨b, k, none⟩)) {w : World} (hm : Vh t w b N cap g) (hn : k + n ≤ N) (he : ∀ j, j < n → g (k + j) = h j) :
  (execOp f o).run P w = .ok (.value (agV h 0 n)) w := by
 rw [run_loadP ty x ho T hx hm hn]
 have : agV g k n = agV h 0 n := by
  unfold agV
  congr 1
  congr 1
  apply List.map_congr_left
  intro j hj
  rw [he j (by simpa using hj), Nat.zero_add]
 rw [this]
end
theorem nstF_one (s : St) : ∀ j, j < 7 → (nstF s j).oneCell' = true := by
 intro j _
 unfold nstF iV
 repeat' split
 all_goals rfl
end Go.Proofs.Ytdhblehhgpdpdaa
