/- Joined: NodOps5, NodC1, Call6, MemGd, NodC3. -/
import Derived.Test.YtngmeaaglogieabGreatNear49
import Derived.Test.YtngmeaaglogieabGreatNear72
import Derived.Test.YtngmeaaglogieabGreatNodOK
import Derived.Test.YtngmeaaglogieabGreatNear65
namespace Go.Proofs.YtngmeaaglogieabGreat
open Go.RowKit

theorem manyHr : Many Tryz.prog 59 4 := Many.of _ Tryz.underlying59 rfl (by kernel_rfl)
theorem manyAx : Many Tryz.prog 26 21 := Many.of _ Tryz.underlying26 rfl (by kernel_rfl)
theorem zeroHr (w : World) : (zeroValue 59).run Tryz.prog w = .ok (agV (fun _ => .slice none 0 0) 0 4) w := by kernel_rfl
section
variable {P : Program} {f : Operand → Value} {o : Oper}
/-- An array's element, of one cell; of many. -/
theorem run_ixV1 (ty e : TypeId) (x y : Operand) (ho : o.op = .index ty x y) {len i : Nat} (hu : P.underlying ty = some (.array len e)) (T : OneC P e) {g : Nat → Value} {z : Int} (hx : f x = agV g 0 len) (hy : f y = .int .i64 z) (hz : z = (i : Int)) (hi : i < len) (w : World) :
    (execOp f o).run P w = .ok (.value (g i)) w := by
  subst hz
  have h2 : (i : Int) < (len : Int) := by omega
  have hc : (((List.range len).map fun j => g (0 + j)).toArray)[i]? = some (g i) := by
    rw [List.getElem?_toArray, List.getElem?_map, List.getElem?_range hi]
    show some (g (0 + i)) = _
    rw [Nat.zero_add]
  unfold execOp
  simp only [ho, hx, hy, agV, Instr.index, asIntOf, part, Sem.run_bind, Sem.run_pure, Result.andThen_ok, run_underlying hu]
  simp [h2, T.agg, T.size, hi]
theorem run_ixVM (ty e : TypeId) (x y : Operand) (ho : o.op = .index ty x y) {len i m N : Nat} (hu : P.underlying ty = some (.array len e)) (T : Many P e m) {g : Nat → Value} {z : Int} (hx : f x = agV g 0 N) (hN : len * m = N) (hy : f y = .int .i64 z) (hz : z = (i : Int)) (hi : i < len) (w : World) :
    (execOp f o).run P w = .ok (.value (agV g (i * m) m)) w := by
  subst hz hN
  have h2 : (i : Int) < (len : Int) := by omega
  have h3 : i * m + m ≤ len * m := by
    have : (i + 1) * m ≤ len * m := Nat.mul_le_mul_right m (by omega)
    rwa [Nat.succ_mul] at this
  have hc : (((List.range (len * m)).map fun j => g (0 + j)).toArray).extract (i * m) (i * m + m) = ((List.range m).map fun j => g (i * m + j)).toArray := by
    refine Array.ext_getElem? (fun j => ?_)
    rw [Array.getElem?_extract, List.size_toArray, List.length_map, List.length_range]
    by_cases hj : j < m
    · rw [if_pos (by omega), List.getElem?_toArray, List.getElem?_map, List.getElem?_range (by omega), List.getElem?_toArray, List.getElem?_map, List.getElem?_range hj]
      show some (g (0 + (i * m + j))) = some (g (i * m + j))
      rw [Nat.zero_add]
    · rw [if_neg (by omega), List.getElem?_toArray, List.getElem?_eq_none (by simp; omega)]
  unfold execOp
  simp only [ho, hx, hy, agV, Instr.index, asIntOf, Sem.run_bind, Sem.run_pure, Result.andThen_ok, run_underlying hu]
  rw [if_pos (show (0 : Int) ≤ (i : Int) ∧ (i : Int) < (len : Int) from ⟨by omega, h2⟩)]
  simp only [part, Sem.run_bind, Sem.run_pure, Result.andThen_ok, T.agg, T.size, if_true, Int.toNat_natCast, hc]
end
section
variable {f : Operand → Value} {o : Oper}
theorem run_cutI3 (x : Operand) (ho : o.op = .slice 31 x none none none) {b off : Nat} (hx : f x = .pointer (some ⟨b, off, none⟩)) (w : World) : (execOp f o).run Tryz.prog w = .ok (.value (.slice (some ⟨b, off, none⟩) 3 3)) w := by
  unfold execOp
  rw [ho]
  dsimp only
  rw [hx]
  go_simp
theorem run_cutB4 (x : Operand) (ho : o.op = .slice 27 x none none none) {b off : Nat} (hx : f x = .pointer (some ⟨b, off, none⟩)) (w : World) : (execOp f o).run Tryz.prog w = .ok (.value (.slice (some ⟨b, off, none⟩) 4 4)) w := by
  unfold execOp
  rw [ho]
  dsimp only
  rw [hx]
  go_simp
theorem run_cut43 (x : Operand) (ho : o.op = .slice 32 x none none none) {b off : Nat} (hx : f x = .pointer (some ⟨b, off, none⟩)) (w : World) : (execOp f o).run Tryz.prog w = .ok (.value (.slice (some ⟨b, off, none⟩) 4 4)) w := by
  unfold execOp
  rw [ho]
  dsimp only
  rw [hx]
  go_simp
theorem run_lenT (x : Operand) (ho : o.op = .call { callee := .builtin .len, args := #[x], argTypes := #[33] }) {ao : Option Addr} {n c : Nat} (hx : f x = .slice ao n c) (w : World) : (execOp f o).run Tryz.prog w = .ok (.value (.int .i64 ((n : Nat) : Int))) w := by
  unfold execOp
  rw [ho]
  dsimp only
  go_simp
end

end Go.Proofs.YtngmeaaglogieabGreat

namespace Go.Proofs.YtngmeaaglogieabGreat
open Go.RowKit

section
variable {f : Operand → Value} {o : Oper}
theorem run_leqI {b : Bool} (x y : Operand) (ho : o.op = .binOp .leq 3 x y 3) {u v : Int} (hx : f x = .int .i64 u) (hy : f y = .int .i64 v) (hb : decide (u ≤ v) = b) (w : World) : (execOp f o).run Tryz.prog w = .ok (.value (.bool b)) w := by
  subst hb
  unfold execOp
  rw [ho]
  dsimp only
  rw [hx, hy]
  go_simp
theorem run_rem8 (x y : Operand) (ho : o.op = .binOp .rem 3 x y 3) {u : Int} (hx : f x = .int .i64 u) (hy : f y = .int .i64 8) (h0 : 0 ≤ u) (w : World) : (execOp f o).run Tryz.prog w = .ok (.value (.int .i64 (u % 8))) w := by
  have e : u.tmod 8 = u % 8 := Int.tmod_eq_emod_of_nonneg h0
  unfold execOp
  rw [ho]
  dsimp only
  rw [hx, hy]
  go_simp
theorem run_rem2 (x y : Operand) (ho : o.op = .binOp .rem 3 x y 3) {u : Int} (hx : f x = .int .i64 u) (hy : f y = .int .i64 2) (h0 : 0 ≤ u) (w : World) : (execOp f o).run Tryz.prog w = .ok (.value (.int .i64 (u % 2))) w := by
  have e : u.tmod 2 = u % 2 := Int.tmod_eq_emod_of_nonneg h0
  unfold execOp
  rw [ho]
  dsimp only
  rw [hx, hy]
  go_simp
theorem run_quo8 (x y : Operand) (ho : o.op = .binOp .quo 3 x y 3) {u : Int} (hx : f x = .int .i64 u) (hy : f y = .int .i64 8) (h0 : 0 ≤ u) (h2 : u ≤ 9223372036854775807) (w : World) : (execOp f o).run Tryz.prog w = .ok (.value (.int .i64 (u / 8))) w := by
  have e : u.tdiv 8 = u / 8 := Int.tdiv_eq_ediv_of_nonneg h0
  have e2 : IntKind.i64.wrap (u / 8) = u / 8 := by rw [IntKind.wrap_i64]; omega
  unfold execOp
  rw [ho]
  dsimp only
  rw [hx, hy]
  go_simp
theorem run_shrI (x y : Operand) (ho : o.op = .binOp .shr 3 x y 3) {u : Int} {s : Nat} (hx : f x = .int .i64 u) (hy : f y = .int .i64 (s : Int)) (hs : s < 64) (w : World) : (execOp f o).run Tryz.prog w = .ok (.value (.int .i64 (u / 2 ^ s))) w := by
  unfold execOp
  rw [ho]
  dsimp only
  rw [hx, hy]
  go_simp
theorem run_and1 (x y : Operand) (ho : o.op = .binOp .and 3 x y 3) {u : Int} (hx : f x = .int .i64 u) (hy : f y = .int .i64 1) (h0 : 0 ≤ u) (h1 : u ≤ 15) (w : World) : (execOp f o).run Tryz.prog w = .ok (.value (.int .i64 (u % 2))) w := by
  obtain ⟨k, rfl⟩ : ∃ k : Nat, u = (k : Int) := ⟨u.toNat, by omega⟩
  have hk : k < 16 := by omega
  unfold execOp
  rw [ho]
  dsimp only
  rw [hx, hy]
  clear hx hy ho h0 h1
  match k, hk with
  | 0, _ => change _ = _; kernel_rfl
  | 1, _ => change _ = _; kernel_rfl
  | 2, _ => change _ = _; kernel_rfl
  | 3, _ => change _ = _; kernel_rfl
  | 4, _ => change _ = _; kernel_rfl
  | 5, _ => change _ = _; kernel_rfl
  | 6, _ => change _ = _; kernel_rfl
  | 7, _ => change _ = _; kernel_rfl
  | 8, _ => change _ = _; kernel_rfl
  | 9, _ => change _ = _; kernel_rfl
  | 10, _ => change _ = _; kernel_rfl
  | 11, _ => change _ = _; kernel_rfl
  | 12, _ => change _ = _; kernel_rfl
  | 13, _ => change _ = _; kernel_rfl
  | 14, _ => change _ = _; kernel_rfl
  | 15, _ => change _ = _; kernel_rfl
  | k + 16, h => exact absurd h (by omega)
theorem run_bldS0 (ho : o.op = .build 25 #[]) (w : World) : (execOp f o).run Tryz.prog w = .ok (.value (agV (nstF St.nil') 0 7)) w := by
  unfold execOp
  rw [ho]
  go_simp
  rfl
theorem run_bldS (a b c d e g h : Operand) (ho : o.op = .build 25 #[(0, a), (1, b), (2, c), (3, d), (4, e), (5, g), (6, h)]) {s : St} (h0 : f a = .int .i64 s.X) (h1 : f b = .int .i64 s.V) (h2 : f c = .int .i64 s.P00) (h3 : f d = .int .i64 s.P01) (h4 : f e = .int .i64 s.P11) (h5 : f g = .bool s.B) (h6 : f h = .int .i64 s.M) (w : World) :
    (execOp f o).run Tryz.prog w = .ok (.value (agV (nstF s) 0 7)) w := by
  unfold execOp
  rw [ho]
  go_simp
  rfl
theorem run_bldA0 (ho : o.op = .build 26 #[]) (w : World) : (execOp f o).run Tryz.prog w = .ok (.value (agV (fun j => nstF St.nil' (j % 7)) 0 21)) w := by
  unfold execOp
  rw [ho]
  dsimp only
  change _ = _
  kernel_rfl
theorem run_bldR0 (ho : o.op = .build 30 #[]) (w : World) : (execOp f o).run Tryz.prog w = .ok (.value (agV (nrlF zeroR) 0 12)) w := by
  unfold execOp
  rw [ho]
  go_simp
  rfl
theorem run_bldR2 (a b : Operand) (ho : o.op = .build 30 #[(1, a), (2, b)]) {m j : Nat → Int} (h0 : f a = agV (fun i => iV (m i)) 0 4) (h1 : f b = agV (fun i => iV (j i)) 0 4) (w : World) :
    (execOp f o).run Tryz.prog w = .ok (.value (agV (nrlF ⟨fun _ => false, m, j⟩) 0 12)) w := by
  have h0' : f a = .agg #[.int .i64 (m 0), .int .i64 (m 1), .int .i64 (m 2), .int .i64 (m 3)] := h0
  have h1' : f b = .agg #[.int .i64 (j 0), .int .i64 (j 1), .int .i64 (j 2), .int .i64 (j 3)] := h1
  unfold execOp
  rw [ho]
  simp only [List.map_toArray, List.map_cons, List.map_nil]
  rw [h0', h1']
  clear h0 h1 h0' h1' ho
  change _ = _
  kernel_rfl
/-- A row cut from a place on; between two places. -/
theorem run_cutFrom (x y : Operand) (ho : o.op = .slice 39 x (some y) none none) {a : Addr} {n cap i : Nat} {z : Int} (hx : f x = .slice (some a) n cap) (hy : f y = .int .i64 z) (hz : z = (i : Int)) (hi : i ≤ n) (hc : i < cap) (w : World) :
    (execOp f o).run Tryz.prog w = .ok (.value (.slice (some (a.add i)) (n - i) (cap - i))) w := by
  subst hz
  have hi2 : (i : Int) ≤ n := by omega
  have hne : ¬ cap = i := by omega
  unfold execOp
  rw [ho]
  simp only [Option.map_some, Option.map_none]
  rw [hx, hy]
  go_simp
theorem run_cutFT (x y z : Operand) (ho : o.op = .slice 39 x (some y) (some z) none) {a : Addr} {n cap i k : Nat} {p q : Int} (hx : f x = .slice (some a) n cap) (hy : f y = .int .i64 p) (hz : f z = .int .i64 q) (hp : p = (i : Int)) (hq : q = (k : Int)) (hi : i ≤ k) (hk : k ≤ cap) (hc : i < cap) (w : World) :
    (execOp f o).run Tryz.prog w = .ok (.value (.slice (some (a.add i)) (k - i) (cap - i))) w := by
  subst hp hq
  have hi2 : (i : Int) ≤ k := by omega
  have hk2 : (k : Int) ≤ cap := by omega
  have hne : ¬ cap = i := by omega
  unfold execOp
  rw [ho]
  simp only [Option.map_some, Option.map_none]
  rw [hx, hy, hz]
  go_simp
end

end Go.Proofs.YtngmeaaglogieabGreat

namespace Go.Proofs.YtngmeaaglogieabGreat
open Go

theorem wp_call6 (w : World) {P : Program} {Q : Exit → Act → World → Prop} {o : Oper} {a : Act} {K : Act → World → Prop} (n : Nat) (x y z u v x6 : Operand) (T : Array TypeId) (ho : o.op = .call { callee := .value (.func n), args := #[x, y, z, u, v, x6], argTypes := T }) {p q r s t p6 : Value} (hx : a.eval x = p) (hy : a.eval y = q) (hz : a.eval z = r) (hu : a.eval u = s) (hv : a.eval v = t) (h6 : a.eval x6 = p6) (hf : (callFunc n #[p, q, r, s, t, p6]).run P w = .ok (.enter n #[p, q, r, s, t, p6]) w) {R : Ending → World → Prop} (hc : Calls P n #[p, q, r, s, t, p6] w R)
    (h : ∀ e w', R e w' → ∃ r, e = .returned r ∧ K (a.put o.dst r) w') : WpI P o a w K Q := by
  refine ⟨?_⟩
  have e : (execOp a.eval o).run P w = .ok (.enter n #[p, q, r, s, t, p6]) w := by
    unfold execOp
    rw [ho]
    have hv2 : a.eval (Operand.func n) = .func (.func n) #[] #[] := rfl
    simp only [resolve, invoke, Sem.run_bind, List.map_toArray, List.map_cons, List.map_nil, hx, hy, hz, hu, hv, h6, hv2]
    go_simp
  unfold Oper.wp
  rw [e, Oper.upon_enter]
  refine hc.mono ?_
  intro e w' hr
  obtain ⟨r, rfl, hk⟩ := h e w' hr
  exact hk

theorem wp_call3n (w : World) {P : Program} {Q : Exit → Act → World → Prop} {o : Oper} {a : Act} {K : Act → World → Prop} (n : Nat) (x y z : Operand) (T : Array TypeId) (ho : o.op = .call { callee := .value (.func n), args := #[x, y, z], argTypes := T }) {p q r : Value} (hx : a.eval x = p) (hy : a.eval y = q) (hz : a.eval z = r) (hf : (callFunc n #[p, q, r]).run P w = .ok (.enter n #[p, q, r]) w) {R : Ending → World → Prop} (hc : Calls P n #[p, q, r] w R)
    (h : ∀ e w', R e w' → ∃ r, e = .returned r ∧ K (a.put o.dst r) w') : WpI P o a w K Q := by
  refine ⟨?_⟩
  have e : (execOp a.eval o).run P w = .ok (.enter n #[p, q, r]) w := by
    unfold execOp
    rw [ho]
    have hv2 : a.eval (Operand.func n) = .func (.func n) #[] #[] := rfl
    simp only [resolve, invoke, Sem.run_bind, List.map_toArray, List.map_cons, List.map_nil, hx, hy, hz, hv2]
    go_simp
  unfold Oper.wp
  rw [e, Oper.upon_enter]
  refine hc.mono ?_
  intro e w' hr
  obtain ⟨r, rfl, hk⟩ := h e w' hr
  exact hk


end Go.Proofs.YtngmeaaglogieabGreat

namespace Go.Proofs.YtngmeaaglogieabGreat
open Go.RowKit

theorem run_indexT4 (f : Nat → Bool) {i : Nat} (hi : i < 4) (w : World) : (Instr.index 27 (.agg #[.bool (f 0), .bool (f 1), .bool (f 2), .bool (f 3)]) (.int .i64 (i : Int))).run Tryz.prog w = .ok (.bool (f i)) w := by
  have : i = 0 ∨ i = 1 ∨ i = 2 ∨ i = 3 := by omega
  rcases this with rfl | rfl | rfl | rfl <;> simp [Instr.index, go_sem]
/-- Are the counts of one node within their bounds? -/
def gcN (b : Bool) (m t : Int) : Bool := if b then decide (0 ≤ m) && decide (m ≤ 2) && decide (t = 0) else decide (m = 0) && decide (0 ≤ t) && decide (t ≤ 2)
theorem gd_gc (r : Rl) (i : Nat) : gd r i = gcN (r.I i) (r.M i) (r.J i) := rfl

set_option maxHeartbeats 1000000 in
theorem goodCounts_any (b : Bool) (m t : Int) (w : World) :
    Calls Tryz.prog 53 #[.bool b, .int .i64 m, .int .i64 t] w fun e w' => e = .returned (.bool (gcN b m t)) ∧ w' = w := by
  cases b with
  | true =>
    have G := hide (show gcN true m t = (decide (0 ≤ m) && decide (m ≤ 2) && decide (t = 0)) from rfl)
    by_cases h1 : 0 ≤ m
    · have d1 : decide (0 ≤ m) = true := decide_eq_true h1
      by_cases h2 : m ≤ 2
      · have d2 : decide (m ≤ 2) = true := decide_eq_true h2
        by_cases h3 : t = 0
        · subst h3
          go_enter Tryz.func53, Tryz.ntmps53
          go_wp2_with fail
          go_ret
          exact ⟨by rw [unhide G, d1, d2]; rfl, rfl⟩
        · have d3 : (t == 0) = false := by simp [h3]
          have d4 : decide (t = 0) = false := decide_eq_false h3
          go_enter Tryz.func53, Tryz.ntmps53
          go_wp2_with fail
          go_ret
          exact ⟨by rw [unhide G, d1, d2, d4]; rfl, rfl⟩
      · have d2 : decide (m ≤ 2) = false := decide_eq_false h2
        go_enter Tryz.func53, Tryz.ntmps53
        go_wp2_with fail
        go_ret
        exact ⟨by rw [unhide G, d1, d2]; rfl, rfl⟩
    · have d1 : decide (0 ≤ m) = false := decide_eq_false h1
      go_enter Tryz.func53, Tryz.ntmps53
      go_wp2_with fail
      go_ret
      exact ⟨by rw [unhide G, d1]; rfl, rfl⟩
  | false =>
    have G := hide (show gcN false m t = (decide (m = 0) && decide (0 ≤ t) && decide (t ≤ 2)) from rfl)
    by_cases h1 : 0 ≤ t
    · have d1 : decide (0 ≤ t) = true := decide_eq_true h1
      by_cases h2 : t < 3
      · have d2 : decide (t < 3) = true := decide_eq_true h2
        have d5 := hide (show decide (t ≤ 2) = true from decide_eq_true (by omega))
        by_cases h3 : m = 0
        · subst h3
          go_enter Tryz.func53, Tryz.ntmps53
          go_wp2_with fail
          go_ret
          exact ⟨by rw [unhide G, d1, unhide d5]; rfl, rfl⟩
        · have d3 : (m == 0) = false := by simp [h3]
          have d4 : decide (m = 0) = false := decide_eq_false h3
          go_enter Tryz.func53, Tryz.ntmps53
          go_wp2_with fail
          go_ret
          exact ⟨by rw [unhide G, d4]; rfl, rfl⟩
      · have d2 : decide (t < 3) = false := decide_eq_false h2
        have d5 := hide (show decide (t ≤ 2) = false from decide_eq_false (by omega))
        go_enter Tryz.func53, Tryz.ntmps53
        go_wp2_with fail
        go_ret
        exact ⟨by rw [unhide G, unhide d5, Bool.and_false]; rfl, rfl⟩
    · have d1 : decide (0 ≤ t) = false := decide_eq_false h1
      go_enter Tryz.func53, Tryz.ntmps53
      go_wp2_with fail
      go_ret
      exact ⟨by rw [unhide G, d1, Bool.and_false]; rfl, rfl⟩

theorem RAt.drew {w : World} {b : Nat} {r : Rl} (h : RAt w b r) : RAt w.drew b r := h

set_option maxHeartbeats 2000000 in
theorem memberGood_ok : GrOK 42 := by
  intro r w _
  obtain ⟨w1, e1, m1, k1, z1⟩ := r_alloc w r
  have p0 := m1.inn (i := 0) (by omega)
  have p1 := m1.inn (i := 1) (by omega)
  have p2 := m1.inn (i := 2) (by omega)
  have p3 := m1.inn (i := 3) (by omega)
  rw [e1] at p0 p1 p2 p3
  have E1 := hide e1; have M1 := hide m1; have K1 := hide k1
  clear e1 m1 k1 z1
  unfold rollV
  go_enter Tryz.func42, Tryz.ntmps42
  go_wp2_with fail
  rw [← unhide E1]
  clear p0 p1 p2 p3
  go_loopw [7] (fun is wr => ∃ i : Nat, is = .int .i64 i ∧ i ≤ 4 ∧ (∀ j, j < i → gd r j = true) ∧ RAt wr w.heap.size r ∧ Below w.heap.size w wr) (fun is _ => 4 - (intOf is).toNat)
  case atStart => exact ⟨0, rfl, by omega, fun j h => absurd h (by omega), unhide M1, unhide K1⟩
  case round =>
    obtain ⟨i, rfl, hi, hg, hm, hk⟩ := hrel
    rename World => wr
    have HG := hide hg; have HK := hide hk
    clear hg hk M1 K1
    by_cases hin : i < 4
    · have hin' : (i : Int) < 4 := by omega
      have NX := hide (fun h : gd r i = true => show ∀ j, j < i + 1 → gd r j = true from fun j hj => by
        by_cases e : j = i
        · rw [e]; exact h
        · exact unhide HG j (by omega))
      have at_ := run_indexT4 r.I hin
      have GG := hide (gd_gc r i)
      have hS : (fun u => RAt u w.heap.size r) wr.drew := hm.drew
      have HM := hide hm
      clear hm
      go_wp2_with fail
      refine region_by (S := fun u => RAt u w.heap.size r) [(0, false), (1, false), (2, false), (3, false), (4, false), (5, false), (6, false), (7, false), (8, false), (9, true), (10, true)] [] (by kernel_rfl) (by kernel_rfl) ?_
      iterate 9
        refine seq_read (v := ?_) rfl (fun _ _ _ h => h) (by rfl) hS ?_ ?_
        rotate_left 1
        · intro wx hwx
          have cm := RAt.mis hwx hin; have cj := RAt.joi hwx hin
          clear hwx
          go_simp <;> exact rfl
        go_frame
      refine seq_do rfl (fun K hK => ?_)
      go_simp
      refine (goodCounts_any (r.I i) (r.M i) (r.J i) _).mono ?_
      rintro e w2 ⟨rfl, rfl⟩
      refine hK _ _ (fun _ => hS) ?_
      clear hK K
      rw [← unhide GG]
      refine seq_do rfl (fun K hK => ?_)
      go_simp
      refine hK _ _ (fun _ => hS) ?_
      clear hK K
      refine seq_end ?_
      have M2 := hide ((unhide HM).drew); have K2 := hide (below_drew (unhide HK))
      clear hS HM HK at_
      cases hb : gd r i with
      | true =>
        have Y := hide (unhide NX hb)
        go_wp2_with fail
        go_roundw
        case rel => exact ⟨i + 1, by go_num, by omega, unhide Y, unhide M2, unhide K2⟩
        case measure => simp [intOf] <;> omega
      | false =>
        have N := hide (gdA_no hin hb)
        go_wp2_with fail
        go_ret
        exact ⟨by rw [unhide N]; rfl, unhide K2⟩
    · have e9 : i = 4 := by omega
      subst e9
      rw [show ((4 : Nat) : Int) = 4 from rfl]
      have N := hide (gdA_iff.2 (unhide HG))
      clear hm
      go_wp2_with fail
      go_ret
      exact ⟨by rw [unhide N]; rfl, unhide HK⟩

end Go.Proofs.YtngmeaaglogieabGreat

namespace Go.Proofs.YtngmeaaglogieabGreat
open Go.RowKit

theorem enter_cwithin (x y : Value) (w : World) : (callFunc 69 #[x, y]).run Tryz.prog w = .ok (.enter 69 #[x, y]) w := by go_simp
theorem enter_caxisOf (x : Value) (w : World) : (callFunc 68 #[x]).run Tryz.prog w = .ok (.enter 68 #[x]) w := by go_simp
theorem enter_caxesOf (x : Value) (w : World) : (callFunc 55 #[x]).run Tryz.prog w = .ok (.enter 55 #[x]) w := by go_simp
theorem enter_ccountsOf (x : Value) (w : World) : (callFunc 70 #[x]).run Tryz.prog w = .ok (.enter 70 #[x]) w := by go_simp
theorem enter_crollOf (x y z : Value) (w : World) : (callFunc 56 #[x, y, z]).run Tryz.prog w = .ok (.enter 56 #[x, y, z]) w := by go_simp
theorem enter_cmgood (x : Value) (w : World) : (callFunc 42 #[x]).run Tryz.prog w = .ok (.enter 42 #[x]) w := by go_simp
def wiB (x l : Int) : Bool := decide (0 ≤ x) && decide (x ≤ l)
theorem withinN_any (x l : Int) (w : World) : Calls Tryz.prog 69 #[.int .i64 x, .int .i64 l] w fun e w' => e = .returned (.bool (wiB x l)) ∧ Below w.heap.size w w' := by
  unfold wiB
  by_cases h1 : 0 ≤ x
  · by_cases h2 : x ≤ l
    · rw [decide_eq_true h1, decide_eq_true h2]
      refine enterF Tryz.func69 rfl 12 rfl (of_decide_eq_true rfl) (fun A hs hd hb => ?_)
      have b0 := hb 0 _ rfl
      have b1 := hb 1 _ rfl
      clear hb
      refine c_rs (m_start ?_)
      refine m_mv rfl (wanted_rd rfl) (run_assign _ rfl (ev_const _ _) _) ?_
      refine l_nx ?_
      refine c_rs ?_
      refine m_mv rfl (wanted_rd rfl) (run_move _ rfl (ev_out rfl b0) _) ?_
      refine m_mv rfl (wanted_rd rfl) (run_geqI (b := true) _ _ rfl (ev_in rfl (by omega)) (ev_const _ _) (decide_eq_true h1) _) ?_
      refine m_mv rfl (wanted_rd rfl) (run_move _ rfl (ev_in rfl (by omega)) _) ?_
      refine m_mv rfl (wanted_g (j := 2) rfl rfl rfl (ev_in rfl (by omega))) (run_move _ rfl (ev_out rfl b0) _) ?_
      refine m_mv rfl (wanted_g (j := 2) rfl rfl rfl (ev_in rfl (by omega))) (run_move _ rfl (ev_out rfl b1) _) ?_
      refine m_mv rfl (wanted_g (j := 2) rfl rfl rfl (ev_in rfl (by omega))) (run_leqI (b := true) _ _ rfl (ev_in rfl (by omega)) (ev_in rfl (by omega)) (decide_eq_true h2) _) ?_
      refine m_mv rfl (wanted_rd rfl) (run_pickT' _ _ _ rfl (ev_in rfl (by omega)) (ev_in rfl (by omega)) _) ?_
      refine m_mv rfl (wanted_rd rfl) (run_assign _ rfl (ev_in rfl (by omega)) _) ?_
      refine l_nx ?_
      exact c_ret (ret_of ((defL _ _).trans hd) (res_t rfl (ev_in rfl (by omega))) ⟨rfl, Below.refl _ _⟩)
    · rw [decide_eq_true h1, decide_eq_false h2]
      refine enterF Tryz.func69 rfl 12 rfl (of_decide_eq_true rfl) (fun A hs hd hb => ?_)
      have b0 := hb 0 _ rfl
      have b1 := hb 1 _ rfl
      clear hb
      refine c_rs (m_start ?_)
      refine m_mv rfl (wanted_rd rfl) (run_assign _ rfl (ev_const _ _) _) ?_
      refine l_nx ?_
      refine c_rs ?_
      refine m_mv rfl (wanted_rd rfl) (run_move _ rfl (ev_out rfl b0) _) ?_
      refine m_mv rfl (wanted_rd rfl) (run_geqI (b := true) _ _ rfl (ev_in rfl (by omega)) (ev_const _ _) (decide_eq_true h1) _) ?_
      refine m_mv rfl (wanted_rd rfl) (run_move _ rfl (ev_in rfl (by omega)) _) ?_
      refine m_mv rfl (wanted_g (j := 2) rfl rfl rfl (ev_in rfl (by omega))) (run_move _ rfl (ev_out rfl b0) _) ?_
      refine m_mv rfl (wanted_g (j := 2) rfl rfl rfl (ev_in rfl (by omega))) (run_move _ rfl (ev_out rfl b1) _) ?_
      refine m_mv rfl (wanted_g (j := 2) rfl rfl rfl (ev_in rfl (by omega))) (run_leqI (b := false) _ _ rfl (ev_in rfl (by omega)) (ev_in rfl (by omega)) (decide_eq_false h2) _) ?_
      refine m_mv rfl (wanted_rd rfl) (run_pickT' _ _ _ rfl (ev_in rfl (by omega)) (ev_in rfl (by omega)) _) ?_
      refine m_mv rfl (wanted_rd rfl) (run_assign _ rfl (ev_in rfl (by omega)) _) ?_
      refine l_nx ?_
      exact c_ret (ret_of ((defL _ _).trans hd) (res_t rfl (ev_in rfl (by omega))) ⟨rfl, Below.refl _ _⟩)
  · rw [decide_eq_false h1]
    refine enterF Tryz.func69 rfl 12 rfl (of_decide_eq_true rfl) (fun A hs hd hb => ?_)
    have b0 := hb 0 _ rfl
    have b1 := hb 1 _ rfl
    clear hb
    refine c_rs (m_start ?_)
    refine m_mv rfl (wanted_rd rfl) (run_assign _ rfl (ev_const _ _) _) ?_
    refine l_nx ?_
    refine c_rs ?_
    refine m_mv rfl (wanted_rd rfl) (run_move _ rfl (ev_out rfl b0) _) ?_
    refine m_mv rfl (wanted_rd rfl) (run_geqI (b := false) _ _ rfl (ev_in rfl (by omega)) (ev_const _ _) (decide_eq_false h1) _) ?_
    refine m_mv rfl (wanted_rd rfl) (run_move _ rfl (ev_in rfl (by omega)) _) ?_
    refine m_skip rfl (wanted_n (j := 2) rfl rfl rfl (ev_in rfl (by omega)) (by decide)) ?_
    refine m_skip rfl (wanted_n (j := 2) rfl rfl rfl (ev_in rfl (by omega)) (by decide)) ?_
    refine m_skip rfl (wanted_n (j := 2) rfl rfl rfl (ev_in rfl (by omega)) (by decide)) ?_
    refine m_mv rfl (wanted_rd rfl) (run_pickF _ _ _ rfl (ev_in rfl (by omega)) (ev_const _ _) _) ?_
    refine m_mv rfl (wanted_rd rfl) (run_assign _ rfl (ev_in rfl (by omega)) _) ?_
    refine l_nx ?_
    exact c_ret (ret_of ((defL _ _).trans hd) (res_t rfl (ev_in rfl (by omega))) ⟨rfl, Below.refl _ _⟩)
/-- Seven numbers as an axis. -/
def axS (p : Nat → Int) : St := ⟨p 0, p 1, p 2, p 3, p 4, decide (p 5 = 1), p 6⟩
def axO (p : Nat → Int) : St := if wiB (p 5) 1 then axS p else St.nil'
theorem axisOf_any (z : Addr) (m mc : Nat) (p : Nat → Int) (w : World) (hm : 7 ≤ m) (hz : ∀ i, i < 7 → w.cell? (z.add i) = some (.int .i64 (p i))) :
    Calls Tryz.prog 68 #[.slice (some z) m mc] w fun e w' => e = .returned (.tuple #[agV (nstF (axO p)) 0 7, .bool (wiB (p 5) 1)]) ∧ Below w.heap.size w w' := by
  refine enterF Tryz.func68 rfl 33 rfl (of_decide_eq_true rfl) (fun A hs hd hb => ?_)
  have b0 := hb 0 _ rfl
  clear hb
  rcases hb : wiB (p 5) 1 with _ | _
  · refine c_rs (m_start ?_)
    refine m_do rfl (wanted_rd rfl) (fun K hK => ?_)
    refine wp_allocG _ _ rfl zeroSt (of_decide_eq_true rfl) ?_
    intro w1 m1 k1 z1
    refine hK _ _ ?_
    clear hK K
    refine m_mv rfl (wanted_rd rfl) (run_assign _ rfl (ev_const _ _) _) ?_
    refine l_nx ?_
    refine c_nx ?_
    refine c_rs ?_
    refine m_mv rfl (wanted_rd rfl) (run_move _ rfl (ev_out rfl b0) _) ?_
    refine m_mv rfl (wanted_rd rfl) (run_ixN _ _ rfl (a := z) (n := m) (cap := mc) (ev_in rfl (by omega)) (ev_const _ _) (i := 5) rfl (by omega) _) ?_
    refine m_mv rfl (wanted_rd rfl) (run_ldI _ rfl (ev_in rfl (by omega)) (at_below (hz 5 (by omega)) k1)) ?_
    refine m_do rfl (wanted_rd rfl) (fun K hK => ?_)
    have C1 := withinN_any (p 5) 1 w1
    rw [hb] at C1
    refine wp_call2 _ 69 _ _ _ rfl (ev_in rfl (by omega)) (ev_const _ _) (enter_cwithin _ _ _) C1 ?_
    rintro e w2 ⟨rfl, k2⟩
    have n2 := k2.size
    have mr2 := m1.below k2
    refine ⟨_, rfl, ?_⟩
    refine hK _ _ ?_
    clear hK K
    refine m_mv rfl (wanted_rd rfl) (run_notB _ _ rfl (ev_in rfl (by omega)) _) ?_
    refine l_nx ?_
    refine c_true (ev_in rfl (by omega)) ?_
    refine c_rs ?_
    refine m_mv rfl (wanted_rd rfl) (run_bldS0 rfl _) ?_
    refine m_st (wanted_rd rfl) (fun K hK => ?_)
    refine wp_storeP _ _ _ _ rfl manySt (ev_in rfl (by omega)) (ev_in rfl (by omega)) mr2 (by decide) (nstF_one _) rfl ?_
    intro w3 mm3 k3 z3
    have mr3 := Vh.congr mm3 (stP_all7 _ _)
    refine hK _ ?_
    clear hK K
    refine m_mv rfl (wanted_rd rfl) (run_assign _ rfl (ev_const _ _) _) ?_
    refine l_nx ?_
    refine c_ret ?_
    simp only [Nx, Exit.then]
    refine ret_of ((defL _ _).trans hd) (res_ct rfl (ev_in rfl (by omega)) (ev_in rfl (by omega)) manySt mr3 (Nat.le_refl _)) ⟨?_, below_of_kept (k1.trans (k2.mono (by omega))) k3 (by omega) (by omega)⟩
    unfold axO
    rw [hb]
    rfl
  · refine c_rs (m_start ?_)
    refine m_do rfl (wanted_rd rfl) (fun K hK => ?_)
    refine wp_allocG _ _ rfl zeroSt (of_decide_eq_true rfl) ?_
    intro w1 m1 k1 z1
    refine hK _ _ ?_
    clear hK K
    refine m_mv rfl (wanted_rd rfl) (run_assign _ rfl (ev_const _ _) _) ?_
    refine l_nx ?_
    refine c_nx ?_
    refine c_rs ?_
    refine m_mv rfl (wanted_rd rfl) (run_move _ rfl (ev_out rfl b0) _) ?_
    refine m_mv rfl (wanted_rd rfl) (run_ixN _ _ rfl (a := z) (n := m) (cap := mc) (ev_in rfl (by omega)) (ev_const _ _) (i := 5) rfl (by omega) _) ?_
    refine m_mv rfl (wanted_rd rfl) (run_ldI _ rfl (ev_in rfl (by omega)) (at_below (hz 5 (by omega)) k1)) ?_
    refine m_do rfl (wanted_rd rfl) (fun K hK => ?_)
    have C1 := withinN_any (p 5) 1 w1
    rw [hb] at C1
    refine wp_call2 _ 69 _ _ _ rfl (ev_in rfl (by omega)) (ev_const _ _) (enter_cwithin _ _ _) C1 ?_
    rintro e w2 ⟨rfl, k2⟩
    have n2 := k2.size
    have mr2 := m1.below k2
    refine ⟨_, rfl, ?_⟩
    refine hK _ _ ?_
    clear hK K
    refine m_mv rfl (wanted_rd rfl) (run_notB _ _ rfl (ev_in rfl (by omega)) _) ?_
    refine l_nx ?_
    refine c_false (ev_in rfl (by omega)) (c_fin ?_)
    refine c_nx ?_
    have hS0 : (fun Z => ∀ i, i < 7 → Z.cell? (z.add i) = some (.int .i64 (p i))) w2.drew := fun i hi => at_below (hz i hi) (below_drew (k1.trans (k2.mono (by omega))))
    have mr0 : Vh _ w2.drew _ _ _ _ := mr2
    have ez : w2.drew.heap.size = w2.heap.size := rfl
    refine c_rj (S := fun Z => ∀ i, i < 7 → Z.cell? (z.add i) = some (.int .i64 (p i))) (.mv 0 (.mv 1 (.rd 2 (.mv 3 (.mv 4 (.rd 5 (.mv 6 (.mv 7 (.rd 8 (.mv 9 (.mv 10 (.rd 11 (.mv 12 (.mv 13 (.rd 14 (.mv 15 (.mv 16 (.rd 17 (.mv 18 (.mv 19 (.mv 20 (.rd 21 (.mv 22 (.go 23 (.mv 24 .fin))))))))))))))))))))))))) [23] (by kernel_rfl) (by kernel_rfl) ?_
    refine j_mv rfl rfl (fun _ _ _ h => h) (wanted_rd rfl) (fun _ => run_move _ rfl (ev_out rfl b0) _) ?_
    refine j_mv rfl rfl (fun _ _ _ h => h) (wanted_rd rfl) (fun _ => run_ixN _ _ rfl (a := z) (n := m) (cap := mc) (ev_in rfl (by omega)) (ev_const _ _) (i := 0) rfl (by omega) _) ?_
    refine j_rd rfl rfl (fun _ _ _ h => h) (wanted_rd rfl) hS0 (fun _ hS => run_ldI _ rfl (ev_in rfl (by omega)) (hS 0 (by decide))) ?_
    refine j_mv rfl rfl (fun _ _ _ h => h) (wanted_rd rfl) (fun _ => run_move _ rfl (ev_out rfl b0) _) ?_
    refine j_mv rfl rfl (fun _ _ _ h => h) (wanted_rd rfl) (fun _ => run_ixN _ _ rfl (a := z) (n := m) (cap := mc) (ev_in rfl (by omega)) (ev_const _ _) (i := 1) rfl (by omega) _) ?_
    refine j_rd rfl rfl (fun _ _ _ h => h) (wanted_rd rfl) hS0 (fun _ hS => run_ldI _ rfl (ev_in rfl (by omega)) (hS 1 (by decide))) ?_
    refine j_mv rfl rfl (fun _ _ _ h => h) (wanted_rd rfl) (fun _ => run_move _ rfl (ev_out rfl b0) _) ?_
    refine j_mv rfl rfl (fun _ _ _ h => h) (wanted_rd rfl) (fun _ => run_ixN _ _ rfl (a := z) (n := m) (cap := mc) (ev_in rfl (by omega)) (ev_const _ _) (i := 2) rfl (by omega) _) ?_
    refine j_rd rfl rfl (fun _ _ _ h => h) (wanted_rd rfl) hS0 (fun _ hS => run_ldI _ rfl (ev_in rfl (by omega)) (hS 2 (by decide))) ?_
    refine j_mv rfl rfl (fun _ _ _ h => h) (wanted_rd rfl) (fun _ => run_move _ rfl (ev_out rfl b0) _) ?_
    refine j_mv rfl rfl (fun _ _ _ h => h) (wanted_rd rfl) (fun _ => run_ixN _ _ rfl (a := z) (n := m) (cap := mc) (ev_in rfl (by omega)) (ev_const _ _) (i := 3) rfl (by omega) _) ?_
    refine j_rd rfl rfl (fun _ _ _ h => h) (wanted_rd rfl) hS0 (fun _ hS => run_ldI _ rfl (ev_in rfl (by omega)) (hS 3 (by decide))) ?_
    refine j_mv rfl rfl (fun _ _ _ h => h) (wanted_rd rfl) (fun _ => run_move _ rfl (ev_out rfl b0) _) ?_
    refine j_mv rfl rfl (fun _ _ _ h => h) (wanted_rd rfl) (fun _ => run_ixN _ _ rfl (a := z) (n := m) (cap := mc) (ev_in rfl (by omega)) (ev_const _ _) (i := 4) rfl (by omega) _) ?_
    refine j_rd rfl rfl (fun _ _ _ h => h) (wanted_rd rfl) hS0 (fun _ hS => run_ldI _ rfl (ev_in rfl (by omega)) (hS 4 (by decide))) ?_
    refine j_mv rfl rfl (fun _ _ _ h => h) (wanted_rd rfl) (fun _ => run_move _ rfl (ev_out rfl b0) _) ?_
    refine j_mv rfl rfl (fun _ _ _ h => h) (wanted_rd rfl) (fun _ => run_ixN _ _ rfl (a := z) (n := m) (cap := mc) (ev_in rfl (by omega)) (ev_const _ _) (i := 5) rfl (by omega) _) ?_
    refine j_rd rfl rfl (fun _ _ _ h => h) (wanted_rd rfl) hS0 (fun _ hS => run_ldI _ rfl (ev_in rfl (by omega)) (hS 5 (by decide))) ?_
    refine j_mv rfl rfl (fun _ _ _ h => h) (wanted_rd rfl) (fun _ => run_eqlI (b := decide (p 5 = 1)) _ _ rfl (ev_in rfl (by omega)) (ev_const _ _) rfl _) ?_
    refine j_mv rfl rfl (fun _ _ _ h => h) (wanted_rd rfl) (fun _ => run_move _ rfl (ev_out rfl b0) _) ?_
    refine j_mv rfl rfl (fun _ _ _ h => h) (wanted_rd rfl) (fun _ => run_ixN _ _ rfl (a := z) (n := m) (cap := mc) (ev_in rfl (by omega)) (ev_const _ _) (i := 6) rfl (by omega) _) ?_
    refine j_rd rfl rfl (fun _ _ _ h => h) (wanted_rd rfl) hS0 (fun _ hS => run_ldI _ rfl (ev_in rfl (by omega)) (hS 6 (by decide))) ?_
    refine j_mv rfl rfl (fun _ _ _ h => h) (wanted_rd rfl) (fun _ => run_bldS (s := axS p) _ _ _ _ _ _ _ rfl (ev_in rfl (by omega)) (ev_in rfl (by omega)) (ev_in rfl (by omega)) (ev_in rfl (by omega)) (ev_in rfl (by omega)) (ev_in rfl (by omega)) (ev_in rfl (by omega)) _) ?_
    refine j_st rfl (wanted_rd rfl) (fun K hK => ?_)
    refine wp_storeP _ _ _ _ rfl manySt (ev_in rfl (by omega)) (ev_in rfl (by omega)) mr0 (by decide) (nstF_one _) rfl ?_
    intro w3 mm3 k3 z3
    have mr3 := Vh.congr mm3 (stP_all7 _ _)
    refine hK _ (fun h => absurd h (by decide)) ?_
    clear hK K
    refine j_mv rfl rfl (fun _ _ _ h => h) (wanted_rd rfl) (fun _ => run_assign _ rfl (ev_const _ _) _) ?_
    refine j_nx ?_
    refine c_ret ?_
    refine ret_of ((defL _ _).trans hd) (res_ct rfl (ev_in rfl (by omega)) (ev_in rfl (by omega)) manySt mr3 (Nat.le_refl _)) ⟨?_, below_of_kept (below_drew (k1.trans (k2.mono (by omega)))) k3 (by omega) (by omega)⟩
    unfold axO
    rw [hb]
    rfl
theorem zeroAx (w : World) : (zeroValue 26).run Tryz.prog w = .ok (agV (fun j => nstF St.nil' (j % 7)) 0 21) w := by kernel_rfl
theorem stP_all21 (g : Nat → Value) (h : Nat → Value) : ∀ j, j < 21 → stP g 0 21 h j = h j := fun j hj => by
  have := stP_in g (o := 0) (n := 21) h hj
  rwa [Nat.zero_add] at this
theorem add_add (a : Addr) (i k : Nat) : (a.add i).add k = a.add (i + k) := by
  by_cases hi : i = 0
  · subst hi; simp [Addr.add]
  · by_cases hk : k = 0
    · subst hk; simp [Addr.add]
    · simp [Addr.add, hi, hk, Nat.add_assoc]
/-- The axes that a list tells; do they tell any? -/
def axN (v : Nat → Int) (a : Nat) : St := axS (fun i => v (7 * a + i))
def okA (v : Nat → Int) : Bool := wiB (v 5) 1 && (wiB (v 12) 1 && wiB (v 19) 1)
def axV (v : Nat → Int) (x j : Nat) : Value := if j < 7 * x then nstF (axN v (j / 7)) (j % 7) else nstF St.nil' (j % 7)
theorem axV_zero (v : Nat → Int) : ∀ j, j < 21 → nstF St.nil' (j % 7) = axV v 0 j := fun j _ => by unfold axV; rw [if_neg (by omega)]
theorem axV_next (v : Nat → Int) {x : Nat} (hb : wiB (v (7 * x + 5)) 1 = true) : ∀ j, j < 21 → stP (axV v x) (0 + x * 7) 7 (nstF (axO (fun i => v (7 * x + i)))) j = axV v (x + 1) j := by
  intro j _
  unfold stP
  by_cases c : 0 + x * 7 ≤ j ∧ j < 0 + x * 7 + 7
  · rw [if_pos c]
    have e : axO (fun i => v (7 * x + i)) = axN v x := by
      unfold axO
      exact if_pos hb
    rw [e]
    unfold axV
    rw [if_pos (by omega), show j / 7 = x by omega, show j % 7 = j - (0 + x * 7) by omega]
  · rw [if_neg c]
    unfold axV
    by_cases c2 : j < 7 * x
    · rw [if_pos c2, if_pos (by omega)]
    · rw [if_neg c2, if_neg (by omega)]
theorem axV_three (v : Nat → Int) : ∀ j, j < 21 → axV v 3 j = nstF (axN v (j / 7)) (j % 7) := fun j hj => by unfold axV; rw [if_pos (by omega)]
theorem okA_no {v : Nat → Int} {x : Nat} (hx : x < 3) (hb : wiB (v (7 * x + 5)) 1 = false) : okA v = false := by
  unfold okA
  match x, hx with
  | 0, _ => rw [show wiB (v 5) 1 = false from hb]; rfl
  | 1, _ => rw [show wiB (v 12) 1 = false from hb]; simp
  | 2, _ => rw [show wiB (v 19) 1 = false from hb]; simp
theorem okA_yes {v : Nat → Int} (h : ∀ a, a < 3 → wiB (v (7 * a + 5)) 1 = true) : okA v = true := by
  unfold okA
  rw [show wiB (v 5) 1 = true from h 0 (by omega), show wiB (v 12) 1 = true from h 1 (by omega), show wiB (v 19) 1 = true from h 2 (by omega)]
  rfl
set_option maxHeartbeats 2000000 in
theorem axesOf_any (y : Addr) (yc : Nat) (v : Nat → Int) (w : World) (hc : 24 ≤ yc) (hy : ∀ i, i < 24 → w.cell? (y.add i) = some (.int .i64 (v i))) :
    Calls Tryz.prog 55 #[.slice (some y) 24 yc] w fun e w' => e = .returned (.tuple #[agV (fun j => nstF (if okA v then axN v (j / 7) else St.nil') (j % 7)) 0 21, .bool (okA v)]) ∧ Below w.heap.size w w' := by
  refine enterF Tryz.func55 rfl 27 rfl (of_decide_eq_true rfl) (fun A hs hd hb => ?_)
  have b0 := hb 0 _ rfl
  clear hb
  refine c_rs (m_start ?_)
  refine m_do rfl (wanted_rd rfl) (fun K hK => ?_)
  refine wp_allocG _ _ rfl zeroAx (of_decide_eq_true rfl) ?_
  intro w1 m1 k1 z1
  refine hK _ _ ?_
  clear hK K
  refine m_mv rfl (wanted_rd rfl) (run_assign _ rfl (ev_const _ _) _) ?_
  refine l_nx ?_
  refine c_rs ?_
  refine m_do rfl (wanted_rd rfl) (fun K hK => ?_)
  refine wp_allocG _ _ rfl zeroAx (of_decide_eq_true rfl) ?_
  intro w2 m2 k2 z2
  have mr2 := m1.below k2
  refine hK _ _ ?_
  clear hK K
  refine l_nx ?_
  refine c_nx ?_
  refine c_rs ?_
  refine m_mv rfl (wanted_rd rfl) (run_move _ rfl (ev_const _ _) _) ?_
  refine l_nx ?_
  refine c_block ?_
  refine c_loop (fun q A W => ∃ x : Nat, x ≤ 3 ∧ 3 - x ≤ q ∧ A.tmps.size = 27 ∧ A.defers = [] ∧ A.eval (.tmp 0) = .slice (some y) 24 yc ∧ A.eval (.tmp 2) = .pointer (some ⟨w.heap.size, 0, none⟩) ∧ A.eval (.tmp 4) = .pointer (some ⟨w1.heap.size, 0, none⟩) ∧ A.eval (.tmp 8) = .int .i64 (x : Int) ∧ (∀ a, a < x → wiB (v (7 * a + 5)) 1 = true) ∧ Vh 26 W w.heap.size 21 21 (fun j => nstF St.nil' (j % 7)) ∧ Vh 26 W w1.heap.size 21 21 (axV v x) ∧ Below w.heap.size w W ∧ w2.heap.size ≤ W.heap.size) 3 ⟨0, by omega, by omega, (szL _ _).trans hs, (defL _ _).trans hd, (ev_out rfl b0), (ev_in rfl (by omega)), (ev_in rfl (by omega)), (ev_in rfl (by omega)), fun a h => absurd h (by omega), mr2, Vh.congr m2 (axV_zero v), k1.trans (k2.mono (by omega)), by omega⟩ (fun q B W hI2 => ?_)
  clear b0 hs hd
  obtain ⟨x, hx, hr2, hs, hd, b0, b2, b4, b8, hok, mr, ml, kB, hW⟩ := hI2
  by_cases hin : x < 3
  · rcases hb : wiB (v (7 * x + 5)) 1 with _ | _
    · refine c_rs (m_start ?_)
      refine m_mv rfl (wanted_rd rfl) (run_lssI (b := true) _ _ rfl (ev_out rfl b8) (ev_const _ _) (decide_eq_true (by omega)) _) ?_
      refine l_nx ?_
      refine c_nx (c_true (ev_in rfl (by omega)) (c_fin ?_))
      refine c_nx (c_block ?_)
      refine c_rs ?_
      refine m_mv rfl (wanted_rd rfl) (run_move _ rfl (ev_out rfl b8) _) ?_
      refine m_mv rfl (wanted_rd rfl) (run_assign _ rfl (ev_in rfl (by omega)) _) ?_
      refine l_nx ?_
      refine c_rs ?_
      refine m_mv rfl (wanted_rd rfl) (run_move _ rfl (ev_out rfl b0) _) ?_
      refine m_mv rfl (wanted_rd rfl) (run_move _ rfl (ev_in rfl (by omega)) _) ?_
      refine m_mv rfl (wanted_rd rfl) (run_mulN _ _ rfl (ev_in rfl (by omega)) (ev_const _ _) (by omega) (by omega) _) ?_
      refine m_mv rfl (wanted_rd rfl) (run_cutFrom (i := 7 * x) _ _ rfl (ev_in rfl (by omega)) (ev_in rfl (by omega)) (by omega) (by omega) (by omega) _) ?_
      refine m_do rfl (wanted_rd rfl) (fun K hK => ?_)
      have C1 := axisOf_any (y.add (7 * x)) (24 - 7 * x) (yc - 7 * x) (fun i => v (7 * x + i)) W (by omega) (fun i hi => by rw [add_add]; exact at_below (hy (7 * x + i) (by omega)) kB)
      rw [hb] at C1
      refine wp_call1 _ 68 _ _ rfl (ev_in rfl (by omega)) (enter_caxisOf _ _) C1 ?_
      rintro e w11 ⟨rfl, k11⟩
      have n11 := k11.size
      have mr11 := mr.below k11
      have ml11 := ml.below k11
      refine ⟨_, rfl, ?_⟩
      refine hK _ _ ?_
      clear hK K
      refine m_mv rfl (wanted_rd rfl) (run_move _ rfl (ev_in rfl (by omega)) _) ?_
      refine m_mv rfl (wanted_rd rfl) (run_extA _ rfl (ev_in rfl (by omega)) _) ?_
      refine m_mv rfl (wanted_rd rfl) (run_extB _ rfl (ev_in rfl (by omega)) _) ?_
      refine m_do rfl (wanted_rd rfl) (fun K hK => ?_)
      refine wp_allocG _ _ rfl zeroSt (of_decide_eq_true rfl) ?_
      intro w12 m12 k12 z12
      have mr12 := mr11.below k12
      have ml12 := ml11.below k12
      refine hK _ _ ?_
      clear hK K
      refine m_st (wanted_rd rfl) (fun K hK => ?_)
      refine wp_storeP _ _ _ _ rfl manySt (ev_in rfl (by omega)) (ev_in rfl (by omega)) m12 (by decide) (nstF_one _) rfl ?_
      intro w13 mm13 k13 z13
      have ms13 := Vh.congr mm13 (stP_all7 _ _)
      have mr13 := mr12.kept k13 (by omega)
      have ml13 := ml12.kept k13 (by omega)
      refine hK _ ?_
      clear hK K
      refine m_mv rfl (wanted_rd rfl) (run_assign _ rfl (ev_in rfl (by omega)) _) ?_
      refine l_nx ?_
      refine c_nx ?_
      refine c_rs ?_
      refine m_mv rfl (wanted_rd rfl) (run_move _ rfl (ev_in rfl (by omega)) _) ?_
      refine m_mv rfl (wanted_rd rfl) (run_notB _ _ rfl (ev_in rfl (by omega)) _) ?_
      refine l_nx ?_
      refine c_true (ev_in rfl (by omega)) ?_
      refine c_rs ?_
      refine m_mv rfl (wanted_rd rfl) (run_bldA0 rfl _) ?_
      refine m_st (wanted_rd rfl) (fun K hK => ?_)
      refine wp_storeP _ _ _ _ rfl manyAx (ev_out rfl b2) (ev_in rfl (by omega)) mr13 (by decide) (fun j _ => nstF_one _ _ (by omega)) rfl ?_
      intro w14 mm14 k14 z14
      have mr14 := Vh.congr mm14 (stP_all21 _ _)
      have ml14 := ml13.kept k14 (by omega)
      have ms14 := ms13.kept k14 (by omega)
      refine hK _ ?_
      clear hK K
      refine m_mv rfl (wanted_rd rfl) (run_assign _ rfl (ev_const _ _) _) ?_
      refine l_nx ?_
      refine c_ret ?_
      simp only [Nx, Exit.inBlock, Exit.then]
      refine ret_of ((defL _ _).trans hd) (res_ct rfl (ev_out rfl b2) (ev_in rfl (by omega)) manyAx mr14 (Nat.le_refl _)) ⟨?_, below_of_kept (below_of_kept ((kB.trans (k11.mono (by omega))).trans (k12.mono (by omega))) k13 (by omega) (by omega)) k14 (by omega) (by omega)⟩
      rw [okA_no hin hb]
      rfl
    · refine c_rs (m_start ?_)
      refine m_mv rfl (wanted_rd rfl) (run_lssI (b := true) _ _ rfl (ev_out rfl b8) (ev_const _ _) (decide_eq_true (by omega)) _) ?_
      refine l_nx ?_
      refine c_nx (c_true (ev_in rfl (by omega)) (c_fin ?_))
      refine c_nx (c_block ?_)
      refine c_rs ?_
      refine m_mv rfl (wanted_rd rfl) (run_move _ rfl (ev_out rfl b8) _) ?_
      refine m_mv rfl (wanted_rd rfl) (run_assign _ rfl (ev_in rfl (by omega)) _) ?_
      refine l_nx ?_
      refine c_rs ?_
      refine m_mv rfl (wanted_rd rfl) (run_move _ rfl (ev_out rfl b0) _) ?_
      refine m_mv rfl (wanted_rd rfl) (run_move _ rfl (ev_in rfl (by omega)) _) ?_
      refine m_mv rfl (wanted_rd rfl) (run_mulN _ _ rfl (ev_in rfl (by omega)) (ev_const _ _) (by omega) (by omega) _) ?_
      refine m_mv rfl (wanted_rd rfl) (run_cutFrom (i := 7 * x) _ _ rfl (ev_in rfl (by omega)) (ev_in rfl (by omega)) (by omega) (by omega) (by omega) _) ?_
      refine m_do rfl (wanted_rd rfl) (fun K hK => ?_)
      have C1 := axisOf_any (y.add (7 * x)) (24 - 7 * x) (yc - 7 * x) (fun i => v (7 * x + i)) W (by omega) (fun i hi => by rw [add_add]; exact at_below (hy (7 * x + i) (by omega)) kB)
      rw [hb] at C1
      refine wp_call1 _ 68 _ _ rfl (ev_in rfl (by omega)) (enter_caxisOf _ _) C1 ?_
      rintro e w11 ⟨rfl, k11⟩
      have n11 := k11.size
      have mr11 := mr.below k11
      have ml11 := ml.below k11
      refine ⟨_, rfl, ?_⟩
      refine hK _ _ ?_
      clear hK K
      refine m_mv rfl (wanted_rd rfl) (run_move _ rfl (ev_in rfl (by omega)) _) ?_
      refine m_mv rfl (wanted_rd rfl) (run_extA _ rfl (ev_in rfl (by omega)) _) ?_
      refine m_mv rfl (wanted_rd rfl) (run_extB _ rfl (ev_in rfl (by omega)) _) ?_
      refine m_do rfl (wanted_rd rfl) (fun K hK => ?_)
      refine wp_allocG _ _ rfl zeroSt (of_decide_eq_true rfl) ?_
      intro w12 m12 k12 z12
      have mr12 := mr11.below k12
      have ml12 := ml11.below k12
      refine hK _ _ ?_
      clear hK K
      refine m_st (wanted_rd rfl) (fun K hK => ?_)
      refine wp_storeP _ _ _ _ rfl manySt (ev_in rfl (by omega)) (ev_in rfl (by omega)) m12 (by decide) (nstF_one _) rfl ?_
      intro w13 mm13 k13 z13
      have ms13 := Vh.congr mm13 (stP_all7 _ _)
      have mr13 := mr12.kept k13 (by omega)
      have ml13 := ml12.kept k13 (by omega)
      refine hK _ ?_
      clear hK K
      refine m_mv rfl (wanted_rd rfl) (run_assign _ rfl (ev_in rfl (by omega)) _) ?_
      refine l_nx ?_
      refine c_nx ?_
      refine c_rs ?_
      refine m_mv rfl (wanted_rd rfl) (run_move _ rfl (ev_in rfl (by omega)) _) ?_
      refine m_mv rfl (wanted_rd rfl) (run_notB _ _ rfl (ev_in rfl (by omega)) _) ?_
      refine l_nx ?_
      refine c_false (ev_in rfl (by omega)) (c_fin ?_)
      refine c_region ?_
      refine m_mv rfl (wanted_rd rfl) (run_move _ rfl (ev_in rfl (by omega)) _) ?_
      refine m_mv rfl (wanted_rd rfl) (run_loadP _ _ rfl manySt (ev_in rfl (by omega)) ms13 (by decide)) ?_
      refine m_mv rfl (wanted_rd rfl) (run_ixG _ _ _ _ rfl Tryz.underlying26 manySt.size (ev_out rfl b4) (ev_in rfl (by omega)) rfl hin _) ?_
      refine m_st (wanted_rd rfl) (fun K hK => ?_)
      refine wp_storeP _ _ _ _ rfl manySt (ev_in rfl (by omega)) (ev_in rfl (by omega)) ml13 (by omega) (nstF_one _) rfl ?_
      intro w14 mm14 k14 z14
      have ml14 := Vh.congr mm14 (axV_next v hb)
      have mr14 := mr13.kept k14 (by omega)
      have ms14 := ms13.kept k14 (by omega)
      refine hK _ ?_
      clear hK K
      refine l_finB ?_
      refine c_region ?_
      refine m_mv rfl (wanted_rd rfl) (run_addI _ _ rfl (ev_out rfl b8) (ev_const _ _) (by omega) (by omega) _) ?_
      refine m_mv rfl (wanted_rd rfl) (run_move _ rfl (ev_in rfl (by omega)) _) ?_
      exact l_round ⟨3 - (x + 1), by omega, x + 1, by omega, by omega, (szL _ _).trans hs, (defL _ _).trans hd, (ev_out rfl b0), (ev_out rfl b2), (ev_out rfl b4), (ev_in rfl (by omega)).trans (by rw [Int.natCast_add]; rfl), (fun a ha => by
        by_cases e : a = x
        · rw [e]; exact hb
        · exact hok a (by omega)), mr14, ml14, below_of_kept (below_of_kept ((kB.trans (k11.mono (by omega))).trans (k12.mono (by omega))) k13 (by omega) (by omega)) k14 (by omega) (by omega), by omega⟩
  · refine c_rs (m_start ?_)
    refine m_mv rfl (wanted_rd rfl) (run_lssI (b := false) _ _ rfl (ev_out rfl b8) (ev_const _ _) (decide_eq_false (by omega)) _) ?_
    obtain rfl : x = 3 := by omega
    have ml := Vh.congr ml (axV_three v)
    refine l_nx ?_
    refine c_nx (c_false (ev_in rfl (by omega)) (c_exit (x_out ?_)))
    refine c_rs ?_
    refine m_mv rfl (wanted_rd rfl) (run_loadP _ _ rfl manyAx (ev_out rfl b4) ml (by decide)) ?_
    refine m_st (wanted_rd rfl) (fun K hK => ?_)
    refine wp_storeP _ _ _ _ rfl manyAx (ev_out rfl b2) (ev_in rfl (by omega)) mr (by decide) (fun j _ => nstF_one _ _ (by omega)) rfl ?_
    intro w11 mm11 k11 z11
    have mr11 := Vh.congr mm11 (stP_all21 _ _)
    have ml11 := ml.kept k11 (by omega)
    refine hK _ ?_
    clear hK K
    refine m_mv rfl (wanted_rd rfl) (run_assign _ rfl (ev_const _ _) _) ?_
    refine l_nx ?_
    refine c_ret (ret_of ((defL _ _).trans hd) (res_ct rfl (ev_out rfl b2) (ev_in rfl (by omega)) manyAx mr11 (Nat.le_refl _)) ⟨?_, below_of_kept kB k11 (by omega) (by omega)⟩)
    rw [okA_yes hok]
    rfl
/-- The counts of which a number is made. -/
def ctO (n : Int) (i : Nat) : Int := n / 8 ^ (3 - i) % 8
def ctV (n : Int) (x i : Nat) : Value := iV (if 3 - i < x then ctO n i else 0)
theorem ctV_zero (n : Int) : ∀ j, j < 4 → iV 0 = ctV n 0 j := fun j _ => by unfold ctV; rw [if_neg (by omega)]
theorem ctV_next (n : Int) {x : Nat} (hx : x < 4) : ∀ j, j < 4 → stW (ctV n x) (0 + (3 - x) * 1) (.int .i64 (n / 8 ^ x % 8)) j = ctV n (x + 1) j := by
  intro j hj
  unfold stW
  rw [show 0 + (3 - x) * 1 = 3 - x by omega]
  by_cases e : j = 3 - x
  · rw [if_pos e]
    unfold ctV ctO
    rw [if_pos (by omega), show 3 - j = x by omega]
    rfl
  · rw [if_neg e]
    unfold ctV
    by_cases c : 3 - j < x
    · rw [if_pos c, if_pos (by omega)]
    · rw [if_neg c, if_neg (by omega)]
theorem ctV_four (n : Int) : ∀ j, j < 4 → ctV n 4 j = iV (ctO n j) := fun j _ => by unfold ctV; rw [if_pos (by omega)]
theorem ct_pow {n : Int} {x : Nat} : n / 8 ^ x / 8 = n / 8 ^ (x + 1) := by
  rw [Int.ediv_ediv_of_nonneg (Int.pow_nonneg (by decide)), Int.pow_succ]
theorem ct_in {n : Int} (h0 : 0 ≤ n) (h1 : n ≤ 9223372036854775807) (x : Nat) : 0 ≤ n / 8 ^ x ∧ n / 8 ^ x ≤ 9223372036854775807 :=
  ⟨Int.ediv_nonneg h0 (Int.pow_nonneg (by decide)), Int.le_trans (Int.ediv_le_self _ h0) h1⟩
set_option maxHeartbeats 1000000 in
theorem countsOf_any (n : Int) (w : World) (h0 : 0 ≤ n) (h1 : n ≤ 9223372036854775807) : Calls Tryz.prog 70 #[.int .i64 n] w fun e w' => e = .returned (agV (fun i => iV (ctO n i)) 0 4) ∧ Below w.heap.size w w' := by
  refine enterF Tryz.func70 rfl 16 rfl (of_decide_eq_true rfl) (fun A hs hd hb => ?_)
  have b0 : A.eval (.tmp 0) = .int .i64 n := hb 0 _ rfl
  clear hb
  refine c_rs (m_start ?_)
  refine m_do rfl (wanted_rd rfl) (fun K hK => ?_)
  refine wp_allocG _ _ rfl zero4i (of_decide_eq_true rfl) ?_
  intro w1 m1 k1 z1
  refine hK _ _ ?_
  clear hK K
  refine l_nx ?_
  refine c_rs ?_
  refine m_do rfl (wanted_rd rfl) (fun K hK => ?_)
  refine wp_allocG _ _ rfl zero4i (of_decide_eq_true rfl) ?_
  intro w2 m2 k2 z2
  have mr2 := m1.below k2
  refine hK _ _ ?_
  clear hK K
  refine l_nx ?_
  refine c_nx ?_
  refine c_rs ?_
  refine m_mv rfl (wanted_rd rfl) (run_assign _ rfl (ev_const _ _) _) ?_
  refine l_nx ?_
  refine c_block ?_
  refine c_loop (fun q A W => ∃ x : Nat, x ≤ 4 ∧ 4 - x ≤ q ∧ A.tmps.size = 16 ∧ A.defers = [] ∧ A.eval (.tmp 2) = .pointer (some ⟨w.heap.size, 0, none⟩) ∧ A.eval (.tmp 3) = .pointer (some ⟨w1.heap.size, 0, none⟩) ∧ A.eval (.tmp 0) = .int .i64 (n / 8 ^ x) ∧ A.eval (.tmp 4) = .int .i64 (3 - (x : Int)) ∧ Vh 28 W w.heap.size 4 4 (fun _ => iV 0) ∧ Vh 28 W w1.heap.size 4 4 (ctV n x) ∧ Below w.heap.size w W ∧ w2.heap.size ≤ W.heap.size) 4 ⟨0, by omega, by omega, (szL _ _).trans hs, (defL _ _).trans hd, (ev_in rfl (by omega)), (ev_in rfl (by omega)), (ev_out rfl b0).trans (by rw [Int.pow_zero, Int.ediv_one]), (ev_in rfl (by omega)), mr2, Vh.congr m2 (ctV_zero n), k1.trans (k2.mono (by omega)), by omega⟩ (fun q B W hI2 => ?_)
  clear b0 hs hd
  obtain ⟨x, hx, hr2, hs, hd, b2, b3, b0, b4, mr, ml, kB, hW⟩ := hI2
  have hq := ct_in h0 h1 x
  by_cases hin : x < 4
  · refine c_nx ?_
    refine c_rs (m_start ?_)
    refine m_mv rfl (wanted_rd rfl) (run_move _ rfl (ev_out rfl b4) _) ?_
    refine m_mv rfl (wanted_rd rfl) (run_geqI (b := true) _ _ rfl (ev_in rfl (by omega)) (ev_const _ _) (decide_eq_true (by omega)) _) ?_
    refine l_nx ?_
    refine c_true (ev_in rfl (by omega)) (c_fin ?_)
    refine c_nx (c_block ?_)
    refine c_rs ?_
    refine m_mv rfl (wanted_rd rfl) (run_move _ rfl (ev_out rfl b4) _) ?_
    refine m_mv rfl (wanted_rd rfl) (run_move _ rfl (ev_out rfl b0) _) ?_
    refine m_mv rfl (wanted_rd rfl) (run_rem8 _ _ rfl (ev_in rfl (by omega)) (ev_const _ _) hq.1 _) ?_
    refine m_mv rfl (wanted_rd rfl) (run_ixG (i := 3 - x) _ _ _ _ rfl Tryz.underlying28 oneI.size (ev_out rfl b3) (ev_in rfl (by omega)) (by omega) (by omega) _) ?_
    refine m_st (wanted_rd rfl) (fun K hK => ?_)
    refine wp_sto1 _ _ _ _ rfl oneI (ev_in rfl (by omega)) (ev_in rfl (by omega)) ml (by omega) rfl rfl rfl ?_
    intro w11 mm11 k11 z11
    have ml11 := Vh.congr mm11 (ctV_next n hin)
    have mr11 := mr.kept k11 (by omega)
    refine hK _ ?_
    clear hK K
    refine l_nx ?_
    refine c_region ?_
    refine m_mv rfl (wanted_rd rfl) (run_move _ rfl (ev_out rfl b0) _) ?_
    refine m_mv rfl (wanted_rd rfl) (run_quo8 _ _ rfl (ev_in rfl (by omega)) (ev_const _ _) hq.1 (by omega) _) ?_
    refine m_mv rfl (wanted_rd rfl) (run_assign _ rfl (ev_in rfl (by omega)) _) ?_
    refine l_finB ?_
    refine c_region ?_
    refine m_mv rfl (wanted_rd rfl) (run_move _ rfl (ev_out rfl b4) _) ?_
    refine m_mv rfl (wanted_rd rfl) (run_subI _ _ rfl (ev_in rfl (by omega)) (ev_const _ _) (by omega) (by omega) _) ?_
    refine m_mv rfl (wanted_rd rfl) (run_assign _ rfl (ev_in rfl (by omega)) _) ?_
    exact l_round ⟨4 - (x + 1), by omega, x + 1, by omega, by omega, (szL _ _).trans hs, (defL _ _).trans hd, (ev_out rfl b2), (ev_out rfl b3), (ev_in rfl (by omega)).trans (by rw [ct_pow]), (ev_in rfl (by omega)).trans (by congr 1; omega), mr11, ml11, below_of_kept kB k11 (by omega) (by omega), by omega⟩
  · refine c_nx ?_
    refine c_rs (m_start ?_)
    refine m_mv rfl (wanted_rd rfl) (run_move _ rfl (ev_out rfl b4) _) ?_
    refine m_mv rfl (wanted_rd rfl) (run_geqI (b := false) _ _ rfl (ev_in rfl (by omega)) (ev_const _ _) (decide_eq_false (by omega)) _) ?_
    obtain rfl : x = 4 := by omega
    have ml := Vh.congr ml (ctV_four n)
    refine l_nx ?_
    refine c_false (ev_in rfl (by omega)) (c_exit (x_out ?_))
    refine c_rs ?_
    refine m_mv rfl (wanted_rd rfl) (run_loadP _ _ rfl many4 (ev_out rfl b3) ml (by decide)) ?_
    refine m_st (wanted_rd rfl) (fun K hK => ?_)
    refine wp_storeP _ _ _ _ rfl many4 (ev_out rfl b2) (ev_in rfl (by omega)) mr (by decide) (fun j hj => rfl) rfl ?_
    intro w11 mm11 k11 z11
    have mr11 := Vh.congr mm11 (stP_all4 _ _)
    have ml11 := ml.kept k11 (by omega)
    refine hK _ ?_
    clear hK K
    refine l_nx ?_
    refine c_ret (ret_of ((defL _ _).trans hd) (res_c rfl (ev_out rfl b2) many4 mr11 (Nat.le_refl _)) ⟨rfl, below_of_kept kB k11 (by omega) (by omega)⟩)

end Go.Proofs.YtngmeaaglogieabGreat
