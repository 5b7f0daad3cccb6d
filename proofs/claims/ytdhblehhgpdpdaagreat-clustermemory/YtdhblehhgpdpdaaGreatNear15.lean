import Derived.Test.YtdhblehhgpdpdaaGreatNear131
namespace Go.Proofs.YtdhblehhgpdpdaaGreat
open Go.RowKit
section
variable {f : Operand → Value} {o : Oper}
theorem run_extA (x : Operand) (ho : o.op = .extract x 0) {u v : Value} (hx : f x = .tuple #[u, v]) (w : World) : (execOp f o).run Tryz.prog w = .ok (.value u) w := by
 unfold execOp
 rw [ho]
 dsimp only
 rw [hx]
 rfl
theorem run_extB (x : Operand) (ho : o.op = .extract x 1) {u v : Value} (hx : f x = .tuple #[u, v]) (w : World) : (execOp f o).run Tryz.prog w = .ok (.value v) w := by
 unfold execOp
 rw [ho]
 dsimp only
 rw [hx]
 rfl
theorem run_ixN (x y : Operand) (ho : o.op = .indexAddr 79 x y) {a : Addr} {n cap i : Nat} {z : Int} (hx : f x = .slice (some a) n cap) (hy : f y = .int .i64 z) (hz : z = (i : Int)) (hi : i < n) (w : World) :
  (execOp f o).run Tryz.prog w = .ok (.value (.pointer (some (a.add i)))) w := by
 subst hz
 have hi2 : (i : Int) < n := by omega
 unfold execOp
 rw [ho]
 dsimp only
 rw [hx, hy]
 go_simp
theorem run_ldI (x : Operand) (ho : o.op = .load 3 x) {a : Addr} {v : Int} (hx : f x = .pointer (some a)) {w : World} (hc : w.cell? a = some (.int .i64 v)) : (execOp f o).run Tryz.prog w = .ok (.value (.int .i64 v)) w := by
 unfold execOp
 rw [ho]
 dsimp only
 rw [hx]
 go_simp
theorem run_cut4 (x : Operand) (ho : o.op = .slice 28 x none none none) {b off : Nat} (hx : f x = .pointer (some ⟨b, off, none⟩)) (w : World) : (execOp f o).run Tryz.prog w = .ok (.value (.slice (some ⟨b, off, none⟩) 4 4)) w := by
 unfold execOp
 rw [ho]
 dsimp only
 rw [hx]
 go_simp
end
theorem fL_mem {id fr s kind many : Int} {L : List Lm} {c : Lm} (h : fL id fr L s kind many = some c) : c ∈ L ∧ fitB id fr s kind many c.m = true := by
 unfold fL at h
 have h2 := List.find?_some h
 exact ⟨List.mem_of_find?_eq_some h, h2⟩
theorem fit_len {id fr s kind many : Int} {m : Ms} (h : fitB id fr s kind many m = true) : (m.L.length : Int) = many := by
 unfold fitB at h
 simp only [Bool.and_eq_true, decide_eq_true_eq] at h
 exact h.2
theorem LvRd.at {w : World} {c : Lm} (h : LvRd w c) (hl : 0 < c.m.L.length) : ∃ y, c.ao = some y ∧ ∀ i, i < c.m.L.length → w.cell? (y.add i) = some (.int .i64 (gL c.m.L i)) := by
 rcases h.1 with ⟨_, h0, _⟩ | ⟨y, e, hy⟩
 ·omega
 ·exact ⟨y, e, fun i hi => hy i hi⟩
theorem he_row {w : World} {b : Nat} {n : Nd} {v : Value} (h : Vh 37 w b 74 74 (ndF n v)) : Sr w (some ⟨b, 0 + 51, none⟩) 4 4 (iF n.he) := by
 refine Or.inr ⟨_, rfl, fun i hi => ?_⟩
 rw [add_at]
 have := h.cell (i := 0 + 51 + i) (by omega)
 rw [this]
 match i, hi with
 | 0, _ => rfl
 | 1, _ => rfl
 | 2, _ => rfl
 | 3, _ => rfl
end Go.Proofs.YtdhblehhgpdpdaaGreat
namespace Go.Proofs.YtdhblehhgpdpdaaGreat
open Go.RowKit
theorem manySt : Many Tryz.prog 25 7 := Many.of _ Tryz.underlying25 rfl (by kernel_rfl)
theorem manyRl : Many Tryz.prog 30 12 := Many.of _ Tryz.underlying30 rfl (by kernel_rfl)
theorem stP_all7 (g : Nat → Value) (h : Nat → Value) : ∀ j, j < 7 → stP g 0 7 h j = h j := fun j hj => by
 have := stP_in g (o := 0) (n := 7) h hj
 rwa [Nat.zero_add] at this
theorem zeroSt (w : World) : (zeroValue 25).run Tryz.prog w = .ok (agV (nstF St.nil') 0 7) w := by kernel_rfl
section
variable {f : Operand → Value} {o : Oper}
theorem run_mulW (x y : Operand) (ho : o.op = .binOp .mul 3 x y 3) {u v : Int} (hx : f x = .int .i64 u) (hy : f y = .int .i64 v) (w : World) : (execOp f o).run Tryz.prog w = .ok (.value (.int .i64 (wrap64 (u * v)))) w := by
 unfold execOp
 rw [ho]
 dsimp only
 rw [hx, hy]
 go_simp
 rw [IntKind.wrap_i64]
 unfold wrap64
 omega
theorem run_addW (x y : Operand) (ho : o.op = .binOp .add 3 x y 3) {u v : Int} (hx : f x = .int .i64 u) (hy : f y = .int .i64 v) (w : World) : (execOp f o).run Tryz.prog w = .ok (.value (.int .i64 (wrap64 (u + v)))) w := by
 unfold execOp
 rw [ho]
 dsimp only
 rw [hx, hy]
 go_simp
 rw [IntKind.wrap_i64]
 unfold wrap64
 omega
theorem run_mulN (x y : Operand) (ho : o.op = .binOp .mul 3 x y 3) {u v : Int} (hx : f x = .int .i64 u) (hy : f y = .int .i64 v) (h1 : -9223372036854775808 ≤ u * v) (h2 : u * v ≤ 9223372036854775807) (w : World) : (execOp f o).run Tryz.prog w = .ok (.value (.int .i64 (u * v))) w := by
 rw [run_mulW x y ho hx hy w]
 have : wrap64 (u * v) = u * v := by unfold wrap64; omega
 rw [this]
theorem run_geqI {b : Bool} (x y : Operand) (ho : o.op = .binOp .geq 3 x y 3) {u v : Int} (hx : f x = .int .i64 u) (hy : f y = .int .i64 v) (hb : decide (v ≤ u) = b) (w : World) : (execOp f o).run Tryz.prog w = .ok (.value (.bool b)) w := by
 subst hb
 unfold execOp
 rw [ho]
 dsimp only
 rw [hx, hy]
 go_simp
theorem run_loadPe {P : Program} (ty : TypeId) (x : Operand) (ho : o.op = .load ty x) {b k n N cap : Nat} {t : TypeId} {g h : Nat → Value} (T : Many P ty n) (hx : f x = .pointer (some ⟨b, k, none⟩)) {w : World} (hm : Vh t w b N cap g) (hn : k + n ≤ N) (he : ∀ j, j < n → g (k + j) = h j) :
  (execOp f o).run P w = .ok (.value (agV h 0 n)) w := by
 rw [run_loadP ty x ho T hx hm hn]
 have : agV g k n = agV h 0 n := by
  unfold agV
  congr 1
  congr 1
  apply List.map_congr_left
  intro j hj
  rw [he j (by simpa using hj), Nat.zero_add]
 rw [this]
end
theorem wp_row7 (w : World) {o : Oper} {a : Act} {K : Act → World → Prop} {Q : Exit → Act → World → Prop} (x0 x1 x2 x3 x4 x5 x6 : Operand) (ho : o.op = .buildSlice 79 7 #[(0, x0), (1, x1), (2, x2), (3, x3), (4, x4), (5, x5), (6, x6)]) {g : Nat → Int} (h0 : a.eval x0 = .int .i64 (g 0)) (h1 : a.eval x1 = .int .i64 (g 1)) (h2 : a.eval x2 = .int .i64 (g 2)) (h3 : a.eval x3 = .int .i64 (g 3)) (h4 : a.eval x4 = .int .i64 (g 4)) (h5 : a.eval x5 = .int .i64 (g 5)) (h6 : a.eval x6 = .int .i64 (g 6))
  (h : ∀ w', Vh 3 w' w.heap.size 7 7 (fun i => iV (g i)) → Below w.heap.size w w' → w'.heap.size = w.heap.size + 1 → K (a.put o.dst (.slice (some ⟨w.heap.size, 0, none⟩) 7 7)) w') : WpI Tryz.prog o a w K Q := by
 have hh := h (w.alloc (.cells #[.int .i64 (g 0), .int .i64 (g 1), .int .i64 (g 2), .int .i64 (g 3), .int .i64 (g 4), .int .i64 (g 5), .int .i64 (g 6)] 3)) (Vh.of_row (fun i => iV (g i)) 7 (by decide) (by show (w.heap.push _)[w.heap.size]? = _; rw [Array.getElem?_push_size]; rfl)) (al_below _ _) (al_size _ _)
 have e : (execOp a.eval o).run Tryz.prog w = .ok (.value (.slice (some ⟨w.heap.size, 0, none⟩) 7 7)) (w.alloc (.cells #[.int .i64 (g 0), .int .i64 (g 1), .int .i64 (g 2), .int .i64 (g 3), .int .i64 (g 4), .int .i64 (g 5), .int .i64 (g 6)] 3)) := by
  generalize a.eval = f at h0 h1 h2 h3 h4 h5 h6
  unfold execOp
  rw [ho]
  simp only [List.map_toArray, List.map_cons, List.map_nil]
  rw [h0, h1, h2, h3, h4, h5, h6]
  go_simp
 refine ⟨?_⟩
 unfold Oper.wp
 rw [e]
 exact hh
theorem ndF_in (n : Nd) (v : Value) {i : Nat} (hi : i < 4) : ndF n v (0 + 27 + 0 + i * 1) = .bool (n.rl.I i) := by
 unfold ndF
 rw [if_neg (by omega), if_neg (by omega), if_neg (by omega), if_pos (by omega)]
 unfold nrlF
 rw [if_pos (by omega), show 0 + 27 + 0 + i * 1 - 27 = i by omega]
theorem gL_map (l : List Int) : l.map iV = rowV (iF (gL l)) l.length := by
 apply List.ext_getElem?
 intro i
 rw [List.getElem?_map]
 rcases Nat.lt_or_ge i l.length with h | h
 ·rw [rowV_at _ h, List.getElem?_eq_getElem h]
  unfold iF gL
  rw [List.getD_eq_getElem?_getD, List.getElem?_eq_getElem h]
  rfl
 ·rw [rowV_none _ h, List.getElem?_eq_none h]; rfl
theorem nstF_one (s : St) : ∀ j, j < 7 → (nstF s j).oneCell' = true := by
 intro j _
 unfold nstF iV
 repeat' split
 all_goals rfl
end Go.Proofs.YtdhblehhgpdpdaaGreat
