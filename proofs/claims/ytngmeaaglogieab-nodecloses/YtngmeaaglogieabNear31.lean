/- Joined: LawNod3, NodOps5, NodC1, Call6, MemGd. -/
import Derived.Test.YtngmeaaglogieabNear32
import Derived.Test.YtngmeaaglogieabNear25
import Derived.Test.YtngmeaaglogieabNear8
import Derived.Test.YtngmeaaglogieabNear15
import Derived.Test.YtngmeaaglogieabNear9
import Derived.Test.YtngmeaaglogieabNodOK
import Derived.Test.YtngmeaaglogieabFrames
namespace Go.Proofs.Ytngmeaaglogieab
open Go.RowKit

theorem enter_msgs (x : Value) (w : World) : (callFunc 6 #[x]).run Try.prog w = .ok (.enter 6 #[x]) w := by go_simp
theorem enter_begun (w : World) : (callFunc 8 #[]).run Try.prog w = .ok (.enter 8 #[]) w := by go_simp
theorem enter_samen (x y : Value) (w : World) : (callFunc 9 #[x, y]).run Try.prog w = .ok (.enter 9 #[x, y]) w := by go_simp
theorem sr_own {t : TypeId} {w : World} {B n c : Nat} {ao : Option Addr} {g : Nat → Value} (h : w.ownsRow B t 1 (.slice ao n c) n (rowV g n)) : Sr w ao n c g := by
  obtain ⟨ao2, cap, e, hs, _⟩ := owns_sr h
  cases e
  exact hs
theorem ms_rd {w w' : World} {B : Nat} {mo mo' : Option Addr} {k mc' : Nat} {L M : List Lm} (hM : M.map Lm.m = L.map Lm.m) (h : MRd w mo L) (o : OwnM w' B (.slice mo' k mc') M) : MRd w' mo' M := by
  refine o.rd (fun c hc => ?_)
  have : c.m ∈ L.map Lm.m := by rw [← hM]; exact List.mem_map_of_mem hc
  obtain ⟨d, hd, e⟩ := List.mem_map.1 this
  rw [← e]
  exact (h.2 d hd).2.2
theorem ms_R {L M : List Lm} (hM : M.map Lm.m = L.map Lm.m) (hRL : ∀ m, m ∈ L → ∀ i, R64 (gL m.m.L i)) : ∀ m, m ∈ M → ∀ i, R64 (gL m.m.L i) := by
  intro c hc
  have : c.m ∈ L.map Lm.m := by rw [← hM]; exact List.mem_map_of_mem hc
  obtain ⟨d, hd, e⟩ := List.mem_map.1 this
  rw [← e]
  exact hRL d hd
theorem ms_nil {w : World} : MRd w none [] := ⟨fun h => absurd h (by decide), fun c h => absurd h (List.not_mem_nil)⟩
theorem begN_ok : NdOK (begN 2 ⟨1, 0, 0, 0⟩) := by
  have z : R64 0 := ⟨by decide, by decide⟩
  have u : R64 4294967296 := ⟨by decide, by decide⟩
  exact ⟨⟨by decide, by decide⟩, z, tn1_ok, fun a => ⟨z, z, u, z, u, z⟩, fun i => z, fun i => z, fun s a => z, fun s => z, fun s a => z, fun a => z, z, z, by decide⟩

end Go.Proofs.Ytngmeaaglogieab

namespace Go.Proofs.Ytngmeaaglogieab
open Go.RowKit

theorem manyHr : Many Try.prog 52 4 := Many.of _ Try.underlying52 rfl (by kernel_rfl)
theorem manyAx : Many Try.prog 26 21 := Many.of _ Try.underlying26 rfl (by kernel_rfl)
theorem zeroHr (w : World) : (zeroValue 52).run Try.prog w = .ok (agV (fun _ => .slice none 0 0) 0 4) w := by kernel_rfl
section
variable {P : Program} {f : Operand → Value} {o : Oper}
/-- An array's element, of one cell; of many. -/
theorem run_ixV1 (ty e : TypeId) (x y : Operand) (ho : o.op = .index ty x y) {len i : Nat} (hu : P.underlying ty = some (.array len e)) (T : OneC P e) {g : Nat → Value} {z : Int} (hx : f x = agV g 0 len) (hy : f y = .int .i64 z) (hz : z = (i : Int)) (hi : i < len) (w : World) :
    (execOp f o).run P w = .ok (.value (g i)) w := by
  subst hz
  have h2 : (i : Int) < (len : Int) := by omega
  have hc : (((List.range len).map fun j => g (0 + j)).toArray)[i]? = some (g i) := by
    rw [List.getElem?_toArray, List.getElem?_map, List.getElem?_range hi]
    show some (g (0 + i)) = _
    rw [Nat.zero_add]
  unfold execOp
  simp only [ho, hx, hy, agV, Instr.index, asIntOf, part, Sem.run_bind, Sem.run_pure, Result.andThen_ok, run_underlying hu]
  simp [h2, T.agg, T.size, hi]
theorem run_ixVM (ty e : TypeId) (x y : Operand) (ho : o.op = .index ty x y) {len i m N : Nat} (hu : P.underlying ty = some (.array len e)) (T : Many P e m) {g : Nat → Value} {z : Int} (hx : f x = agV g 0 N) (hN : len * m = N) (hy : f y = .int .i64 z) (hz : z = (i : Int)) (hi : i < len) (w : World) :
    (execOp f o).run P w = .ok (.value (agV g (i * m) m)) w := by
  subst hz hN
  have h2 : (i : Int) < (len : Int) := by omega
  have h3 : i * m + m ≤ len * m := by
    have : (i + 1) * m ≤ len * m := Nat.mul_le_mul_right m (by omega)
    rwa [Nat.succ_mul] at this
  have hc : (((List.range (len * m)).map fun j => g (0 + j)).toArray).extract (i * m) (i * m + m) = ((List.range m).map fun j => g (i * m + j)).toArray := by
    refine Array.ext_getElem? (fun j => ?_)
    rw [Array.getElem?_extract, List.size_toArray, List.length_map, List.length_range]
    by_cases hj : j < m
    · rw [if_pos (by omega), List.getElem?_toArray, List.getElem?_map, List.getElem?_range (by omega), List.getElem?_toArray, List.getElem?_map, List.getElem?_range hj]
      show some (g (0 + (i * m + j))) = some (g (i * m + j))
      rw [Nat.zero_add]
    · rw [if_neg (by omega), List.getElem?_toArray, List.getElem?_eq_none (by simp; omega)]
  unfold execOp
  simp only [ho, hx, hy, agV, Instr.index, asIntOf, Sem.run_bind, Sem.run_pure, Result.andThen_ok, run_underlying hu]
  rw [if_pos (show (0 : Int) ≤ (i : Int) ∧ (i : Int) < (len : Int) from ⟨by omega, h2⟩)]
  simp only [part, Sem.run_bind, Sem.run_pure, Result.andThen_ok, T.agg, T.size, if_true, Int.toNat_natCast, hc]
end
section
variable {f : Operand → Value} {o : Oper}
theorem run_cutI3 (x : Operand) (ho : o.op = .slice 31 x none none none) {b off : Nat} (hx : f x = .pointer (some ⟨b, off, none⟩)) (w : World) : (execOp f o).run Try.prog w = .ok (.value (.slice (some ⟨b, off, none⟩) 3 3)) w := by
  unfold execOp
  rw [ho]
  dsimp only
  rw [hx]
  go_simp
theorem run_cutB4 (x : Operand) (ho : o.op = .slice 27 x none none none) {b off : Nat} (hx : f x = .pointer (some ⟨b, off, none⟩)) (w : World) : (execOp f o).run Try.prog w = .ok (.value (.slice (some ⟨b, off, none⟩) 4 4)) w := by
  unfold execOp
  rw [ho]
  dsimp only
  rw [hx]
  go_simp
theorem run_cut43 (x : Operand) (ho : o.op = .slice 32 x none none none) {b off : Nat} (hx : f x = .pointer (some ⟨b, off, none⟩)) (w : World) : (execOp f o).run Try.prog w = .ok (.value (.slice (some ⟨b, off, none⟩) 4 4)) w := by
  unfold execOp
  rw [ho]
  dsimp only
  rw [hx]
  go_simp
theorem run_lenT (x : Operand) (ho : o.op = .call { callee := .builtin .len, args := #[x], argTypes := #[33] }) {ao : Option Addr} {n c : Nat} (hx : f x = .slice ao n c) (w : World) : (execOp f o).run Try.prog w = .ok (.value (.int .i64 ((n : Nat) : Int))) w := by
  unfold execOp
  rw [ho]
  dsimp only
  go_simp
end

end Go.Proofs.Ytngmeaaglogieab

namespace Go.Proofs.Ytngmeaaglogieab
open Go.RowKit

section
variable {f : Operand → Value} {o : Oper}
theorem run_leqI {b : Bool} (x y : Operand) (ho : o.op = .binOp .leq 3 x y 3) {u v : Int} (hx : f x = .int .i64 u) (hy : f y = .int .i64 v) (hb : decide (u ≤ v) = b) (w : World) : (execOp f o).run Try.prog w = .ok (.value (.bool b)) w := by
  subst hb
  unfold execOp
  rw [ho]
  dsimp only
  rw [hx, hy]
  go_simp
theorem run_rem8 (x y : Operand) (ho : o.op = .binOp .rem 3 x y 3) {u : Int} (hx : f x = .int .i64 u) (hy : f y = .int .i64 8) (h0 : 0 ≤ u) (w : World) : (execOp f o).run Try.prog w = .ok (.value (.int .i64 (u % 8))) w := by
  have e : u.tmod 8 = u % 8 := Int.tmod_eq_emod_of_nonneg h0
  unfold execOp
  rw [ho]
  dsimp only
  rw [hx, hy]
  go_simp
theorem run_rem2 (x y : Operand) (ho : o.op = .binOp .rem 3 x y 3) {u : Int} (hx : f x = .int .i64 u) (hy : f y = .int .i64 2) (h0 : 0 ≤ u) (w : World) : (execOp f o).run Try.prog w = .ok (.value (.int .i64 (u % 2))) w := by
  have e : u.tmod 2 = u % 2 := Int.tmod_eq_emod_of_nonneg h0
  unfold execOp
  rw [ho]
  dsimp only
  rw [hx, hy]
  go_simp
theorem run_quo8 (x y : Operand) (ho : o.op = .binOp .quo 3 x y 3) {u : Int} (hx : f x = .int .i64 u) (hy : f y = .int .i64 8) (h0 : 0 ≤ u) (h2 : u ≤ 9223372036854775807) (w : World) : (execOp f o).run Try.prog w = .ok (.value (.int .i64 (u / 8))) w := by
  have e : u.tdiv 8 = u / 8 := Int.tdiv_eq_ediv_of_nonneg h0
  have e2 : IntKind.i64.wrap (u / 8) = u / 8 := by rw [IntKind.wrap_i64]; omega
  unfold execOp
  rw [ho]
  dsimp only
  rw [hx, hy]
  go_simp
theorem run_shrI (x y : Operand) (ho : o.op = .binOp .shr 3 x y 3) {u : Int} {s : Nat} (hx : f x = .int .i64 u) (hy : f y = .int .i64 (s : Int)) (hs : s < 64) (w : World) : (execOp f o).run Try.prog w = .ok (.value (.int .i64 (u / 2 ^ s))) w := by
  unfold execOp
  rw [ho]
  dsimp only
  rw [hx, hy]
  go_simp
theorem run_and1 (x y : Operand) (ho : o.op = .binOp .and 3 x y 3) {u : Int} (hx : f x = .int .i64 u) (hy : f y = .int .i64 1) (h0 : 0 ≤ u) (h1 : u ≤ 15) (w : World) : (execOp f o).run Try.prog w = .ok (.value (.int .i64 (u % 2))) w := by
  obtain ⟨k, rfl⟩ : ∃ k : Nat, u = (k : Int) := ⟨u.toNat, by omega⟩
  have hk : k < 16 := by omega
  unfold execOp
  rw [ho]
  dsimp only
  rw [hx, hy]
  clear hx hy ho h0 h1
  match k, hk with
  | 0, _ => change _ = _; kernel_rfl
  | 1, _ => change _ = _; kernel_rfl
  | 2, _ => change _ = _; kernel_rfl
  | 3, _ => change _ = _; kernel_rfl
  | 4, _ => change _ = _; kernel_rfl
  | 5, _ => change _ = _; kernel_rfl
  | 6, _ => change _ = _; kernel_rfl
  | 7, _ => change _ = _; kernel_rfl
  | 8, _ => change _ = _; kernel_rfl
  | 9, _ => change _ = _; kernel_rfl
  | 10, _ => change _ = _; kernel_rfl
  | 11, _ => change _ = _; kernel_rfl
  | 12, _ => change _ = _; kernel_rfl
  | 13, _ => change _ = _; kernel_rfl
  | 14, _ => change _ = _; kernel_rfl
  | 15, _ => change _ = _; kernel_rfl
  | k + 16, h => exact absurd h (by omega)
theorem run_bldS0 (ho : o.op = .build 25 #[]) (w : World) : (execOp f o).run Try.prog w = .ok (.value (agV (nstF St.nil') 0 7)) w := by
  unfold execOp
  rw [ho]
  go_simp
  rfl
theorem run_bldS (a b c d e g h : Operand) (ho : o.op = .build 25 #[(0, a), (1, b), (2, c), (3, d), (4, e), (5, g), (6, h)]) {s : St} (h0 : f a = .int .i64 s.X) (h1 : f b = .int .i64 s.V) (h2 : f c = .int .i64 s.P00) (h3 : f d = .int .i64 s.P01) (h4 : f e = .int .i64 s.P11) (h5 : f g = .bool s.B) (h6 : f h = .int .i64 s.M) (w : World) :
    (execOp f o).run Try.prog w = .ok (.value (agV (nstF s) 0 7)) w := by
  unfold execOp
  rw [ho]
  go_simp
  rfl
theorem run_bldA0 (ho : o.op = .build 26 #[]) (w : World) : (execOp f o).run Try.prog w = .ok (.value (agV (fun j => nstF St.nil' (j % 7)) 0 21)) w := by
  unfold execOp
  rw [ho]
  dsimp only
  change _ = _
  kernel_rfl
theorem run_bldR0 (ho : o.op = .build 30 #[]) (w : World) : (execOp f o).run Try.prog w = .ok (.value (agV (nrlF zeroR) 0 12)) w := by
  unfold execOp
  rw [ho]
  go_simp
  rfl
theorem run_bldR2 (a b : Operand) (ho : o.op = .build 30 #[(1, a), (2, b)]) {m j : Nat → Int} (h0 : f a = agV (fun i => iV (m i)) 0 4) (h1 : f b = agV (fun i => iV (j i)) 0 4) (w : World) :
    (execOp f o).run Try.prog w = .ok (.value (agV (nrlF ⟨fun _ => false, m, j⟩) 0 12)) w := by
  have h0' : f a = .agg #[.int .i64 (m 0), .int .i64 (m 1), .int .i64 (m 2), .int .i64 (m 3)] := h0
  have h1' : f b = .agg #[.int .i64 (j 0), .int .i64 (j 1), .int .i64 (j 2), .int .i64 (j 3)] := h1
  unfold execOp
  rw [ho]
  simp only [List.map_toArray, List.map_cons, List.map_nil]
  rw [h0', h1']
  clear h0 h1 h0' h1' ho
  change _ = _
  kernel_rfl
/-- A row cut from a place on; between two places. -/
theorem run_cutFrom (x y : Operand) (ho : o.op = .slice 50 x (some y) none none) {a : Addr} {n cap i : Nat} {z : Int} (hx : f x = .slice (some a) n cap) (hy : f y = .int .i64 z) (hz : z = (i : Int)) (hi : i ≤ n) (hc : i < cap) (w : World) :
    (execOp f o).run Try.prog w = .ok (.value (.slice (some (a.add i)) (n - i) (cap - i))) w := by
  subst hz
  have hi2 : (i : Int) ≤ n := by omega
  have hne : ¬ cap = i := by omega
  unfold execOp
  rw [ho]
  simp only [Option.map_some, Option.map_none]
  rw [hx, hy]
  go_simp
theorem run_cutFT (x y z : Operand) (ho : o.op = .slice 50 x (some y) (some z) none) {a : Addr} {n cap i k : Nat} {p q : Int} (hx : f x = .slice (some a) n cap) (hy : f y = .int .i64 p) (hz : f z = .int .i64 q) (hp : p = (i : Int)) (hq : q = (k : Int)) (hi : i ≤ k) (hk : k ≤ cap) (hc : i < cap) (w : World) :
    (execOp f o).run Try.prog w = .ok (.value (.slice (some (a.add i)) (k - i) (cap - i))) w := by
  subst hp hq
  have hi2 : (i : Int) ≤ k := by omega
  have hk2 : (k : Int) ≤ cap := by omega
  have hne : ¬ cap = i := by omega
  unfold execOp
  rw [ho]
  simp only [Option.map_some, Option.map_none]
  rw [hx, hy, hz]
  go_simp
end

end Go.Proofs.Ytngmeaaglogieab

namespace Go.Proofs.Ytngmeaaglogieab
open Go

theorem wp_call6 (w : World) {P : Program} {Q : Exit → Act → World → Prop} {o : Oper} {a : Act} {K : Act → World → Prop} (n : Nat) (x y z u v x6 : Operand) (T : Array TypeId) (ho : o.op = .call { callee := .value (.func n), args := #[x, y, z, u, v, x6], argTypes := T }) {p q r s t p6 : Value} (hx : a.eval x = p) (hy : a.eval y = q) (hz : a.eval z = r) (hu : a.eval u = s) (hv : a.eval v = t) (h6 : a.eval x6 = p6) (hf : (callFunc n #[p, q, r, s, t, p6]).run P w = .ok (.enter n #[p, q, r, s, t, p6]) w) {R : Ending → World → Prop} (hc : Calls P n #[p, q, r, s, t, p6] w R)
    (h : ∀ e w', R e w' → ∃ r, e = .returned r ∧ K (a.put o.dst r) w') : WpI P o a w K Q := by
  refine ⟨?_⟩
  have e : (execOp a.eval o).run P w = .ok (.enter n #[p, q, r, s, t, p6]) w := by
    unfold execOp
    rw [ho]
    have hv2 : a.eval (Operand.func n) = .func (.func n) #[] #[] := rfl
    simp only [resolve, invoke, Sem.run_bind, List.map_toArray, List.map_cons, List.map_nil, hx, hy, hz, hu, hv, h6, hv2]
    go_simp
  unfold Oper.wp
  rw [e, Oper.upon_enter]
  refine hc.mono ?_
  intro e w' hr
  obtain ⟨r, rfl, hk⟩ := h e w' hr
  exact hk

theorem wp_call3n (w : World) {P : Program} {Q : Exit → Act → World → Prop} {o : Oper} {a : Act} {K : Act → World → Prop} (n : Nat) (x y z : Operand) (T : Array TypeId) (ho : o.op = .call { callee := .value (.func n), args := #[x, y, z], argTypes := T }) {p q r : Value} (hx : a.eval x = p) (hy : a.eval y = q) (hz : a.eval z = r) (hf : (callFunc n #[p, q, r]).run P w = .ok (.enter n #[p, q, r]) w) {R : Ending → World → Prop} (hc : Calls P n #[p, q, r] w R)
    (h : ∀ e w', R e w' → ∃ r, e = .returned r ∧ K (a.put o.dst r) w') : WpI P o a w K Q := by
  refine ⟨?_⟩
  have e : (execOp a.eval o).run P w = .ok (.enter n #[p, q, r]) w := by
    unfold execOp
    rw [ho]
    have hv2 : a.eval (Operand.func n) = .func (.func n) #[] #[] := rfl
    simp only [resolve, invoke, Sem.run_bind, List.map_toArray, List.map_cons, List.map_nil, hx, hy, hz, hv2]
    go_simp
  unfold Oper.wp
  rw [e, Oper.upon_enter]
  refine hc.mono ?_
  intro e w' hr
  obtain ⟨r, rfl, hk⟩ := h e w' hr
  exact hk


end Go.Proofs.Ytngmeaaglogieab

namespace Go.Proofs.Ytngmeaaglogieab
open Go.RowKit

theorem run_indexT4 (f : Nat → Bool) {i : Nat} (hi : i < 4) (w : World) : (Instr.index 27 (.agg #[.bool (f 0), .bool (f 1), .bool (f 2), .bool (f 3)]) (.int .i64 (i : Int))).run Try.prog w = .ok (.bool (f i)) w := by
  have : i = 0 ∨ i = 1 ∨ i = 2 ∨ i = 3 := by omega
  rcases this with rfl | rfl | rfl | rfl <;> simp [Instr.index, go_sem]
/-- Are the counts of one node within their bounds? -/
def gcN (b : Bool) (m t : Int) : Bool := if b then decide (0 ≤ m) && decide (m ≤ 2) && decide (t = 0) else decide (m = 0) && decide (0 ≤ t) && decide (t ≤ 2)
theorem gd_gc (r : Rl) (i : Nat) : gd r i = gcN (r.I i) (r.M i) (r.J i) := rfl

set_option maxHeartbeats 1000000 in
theorem goodCounts_any (b : Bool) (m t : Int) (w : World) :
    Calls Try.prog 34 #[.bool b, .int .i64 m, .int .i64 t] w fun e w' => e = .returned (.bool (gcN b m t)) ∧ w' = w := by
  cases b with
  | true =>
    have G := hide (show gcN true m t = (decide (0 ≤ m) && decide (m ≤ 2) && decide (t = 0)) from rfl)
    by_cases h1 : 0 ≤ m
    · have d1 : decide (0 ≤ m) = true := decide_eq_true h1
      by_cases h2 : m ≤ 2
      · have d2 : decide (m ≤ 2) = true := decide_eq_true h2
        by_cases h3 : t = 0
        · subst h3
          go_enter Try.func34, Try.ntmps34
          go_wp2_with fail
          go_ret
          exact ⟨by rw [unhide G, d1, d2]; rfl, rfl⟩
        · have d3 : (t == 0) = false := by simp [h3]
          have d4 : decide (t = 0) = false := decide_eq_false h3
          go_enter Try.func34, Try.ntmps34
          go_wp2_with fail
          go_ret
          exact ⟨by rw [unhide G, d1, d2, d4]; rfl, rfl⟩
      · have d2 : decide (m ≤ 2) = false := decide_eq_false h2
        go_enter Try.func34, Try.ntmps34
        go_wp2_with fail
        go_ret
        exact ⟨by rw [unhide G, d1, d2]; rfl, rfl⟩
    · have d1 : decide (0 ≤ m) = false := decide_eq_false h1
      go_enter Try.func34, Try.ntmps34
      go_wp2_with fail
      go_ret
      exact ⟨by rw [unhide G, d1]; rfl, rfl⟩
  | false =>
    have G := hide (show gcN false m t = (decide (m = 0) && decide (0 ≤ t) && decide (t ≤ 2)) from rfl)
    by_cases h1 : 0 ≤ t
    · have d1 : decide (0 ≤ t) = true := decide_eq_true h1
      by_cases h2 : t < 3
      · have d2 : decide (t < 3) = true := decide_eq_true h2
        have d5 := hide (show decide (t ≤ 2) = true from decide_eq_true (by omega))
        by_cases h3 : m = 0
        · subst h3
          go_enter Try.func34, Try.ntmps34
          go_wp2_with fail
          go_ret
          exact ⟨by rw [unhide G, d1, unhide d5]; rfl, rfl⟩
        · have d3 : (m == 0) = false := by simp [h3]
          have d4 : decide (m = 0) = false := decide_eq_false h3
          go_enter Try.func34, Try.ntmps34
          go_wp2_with fail
          go_ret
          exact ⟨by rw [unhide G, d4]; rfl, rfl⟩
      · have d2 : decide (t < 3) = false := decide_eq_false h2
        have d5 := hide (show decide (t ≤ 2) = false from decide_eq_false (by omega))
        go_enter Try.func34, Try.ntmps34
        go_wp2_with fail
        go_ret
        exact ⟨by rw [unhide G, unhide d5, Bool.and_false]; rfl, rfl⟩
    · have d1 : decide (0 ≤ t) = false := decide_eq_false h1
      go_enter Try.func34, Try.ntmps34
      go_wp2_with fail
      go_ret
      exact ⟨by rw [unhide G, d1, Bool.and_false]; rfl, rfl⟩

theorem RAt.drew {w : World} {b : Nat} {r : Rl} (h : RAt w b r) : RAt w.drew b r := h

set_option maxHeartbeats 2000000 in
theorem memberGood_ok : GrOK 33 := by
  intro r w _
  obtain ⟨w1, e1, m1, k1, z1⟩ := r_alloc w r
  have p0 := m1.inn (i := 0) (by omega)
  have p1 := m1.inn (i := 1) (by omega)
  have p2 := m1.inn (i := 2) (by omega)
  have p3 := m1.inn (i := 3) (by omega)
  rw [e1] at p0 p1 p2 p3
  have E1 := hide e1; have M1 := hide m1; have K1 := hide k1
  clear e1 m1 k1 z1
  unfold rollV
  go_enter Try.func33, Try.ntmps33
  go_wp2_with fail
  rw [← unhide E1]
  clear p0 p1 p2 p3
  go_loopw [7] (fun is wr => ∃ i : Nat, is = .int .i64 i ∧ i ≤ 4 ∧ (∀ j, j < i → gd r j = true) ∧ RAt wr w.heap.size r ∧ Below w.heap.size w wr) (fun is _ => 4 - (intOf is).toNat)
  case atStart => exact ⟨0, rfl, by omega, fun j h => absurd h (by omega), unhide M1, unhide K1⟩
  case round =>
    obtain ⟨i, rfl, hi, hg, hm, hk⟩ := hrel
    rename World => wr
    have HG := hide hg; have HK := hide hk
    clear hg hk M1 K1
    by_cases hin : i < 4
    · have hin' : (i : Int) < 4 := by omega
      have NX := hide (fun h : gd r i = true => show ∀ j, j < i + 1 → gd r j = true from fun j hj => by
        by_cases e : j = i
        · rw [e]; exact h
        · exact unhide HG j (by omega))
      have at_ := run_indexT4 r.I hin
      have GG := hide (gd_gc r i)
      have hS : (fun u => RAt u w.heap.size r) wr.drew := hm.drew
      have HM := hide hm
      clear hm
      go_wp2_with fail
      refine region_by (S := fun u => RAt u w.heap.size r) [(0, false), (1, false), (2, false), (3, false), (4, false), (5, false), (6, false), (7, false), (8, false), (9, true), (10, true)] [] (by kernel_rfl) (by kernel_rfl) ?_
      iterate 9
        refine seq_read (v := ?_) rfl (fun _ _ _ h => h) (by rfl) hS ?_ ?_
        rotate_left 1
        · intro wx hwx
          have cm := RAt.mis hwx hin; have cj := RAt.joi hwx hin
          clear hwx
          go_simp <;> exact rfl
        go_frame
      refine seq_do rfl (fun K hK => ?_)
      go_simp
      refine (goodCounts_any (r.I i) (r.M i) (r.J i) _).mono ?_
      rintro e w2 ⟨rfl, rfl⟩
      refine hK _ _ (fun _ => hS) ?_
      clear hK K
      rw [← unhide GG]
      refine seq_do rfl (fun K hK => ?_)
      go_simp
      refine hK _ _ (fun _ => hS) ?_
      clear hK K
      refine seq_end ?_
      have M2 := hide ((unhide HM).drew); have K2 := hide (below_drew (unhide HK))
      clear hS HM HK at_
      cases hb : gd r i with
      | true =>
        have Y := hide (unhide NX hb)
        go_wp2_with fail
        go_roundw
        case rel => exact ⟨i + 1, by go_num, by omega, unhide Y, unhide M2, unhide K2⟩
        case measure => simp [intOf] <;> omega
      | false =>
        have N := hide (gdA_no hin hb)
        go_wp2_with fail
        go_ret
        exact ⟨by rw [unhide N]; rfl, unhide K2⟩
    · have e9 : i = 4 := by omega
      subst e9
      rw [show ((4 : Nat) : Int) = 4 from rfl]
      have N := hide (gdA_iff.2 (unhide HG))
      clear hm
      go_wp2_with fail
      go_ret
      exact ⟨by rw [unhide N]; rfl, unhide HK⟩

end Go.Proofs.Ytngmeaaglogieab
