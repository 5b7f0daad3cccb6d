import Derived.Test.YtdhblehhgpdpdaaGreatNear15
import Derived.Test.YtdhblehhgpdpdaaGreatMemOK
import Derived.Test.YtdhblehhgpdpdaaGreatNear131
namespace Go.Proofs.YtdhblehhgpdpdaaGreat
open Go.RowKit
theorem manyVd : Many Tryz.prog 35 3 := Many.of _ Tryz.underlying35 rfl (by kernel_rfl)
theorem manyB4 : Many Tryz.prog 27 4 := Many.of _ Tryz.underlying27 rfl (by kernel_rfl)
theorem zero4i (w : World) : (zeroValue 28).run Tryz.prog w = .ok (agV (fun _ => iV 0) 0 4) w := by kernel_rfl
theorem zeroRol (w : World) : (zeroValue 30).run Tryz.prog w = .ok (agV (nrlF zeroR) 0 12) w := by kernel_rfl
section
variable {f : Operand → Value} {o : Oper}
theorem run_ext3A (x : Operand) (ho : o.op = .extract x 0) {u v s : Value} (hx : f x = .tuple #[u, v, s]) (w : World) : (execOp f o).run Tryz.prog w = .ok (.value u) w := by
 unfold execOp
 rw [ho]
 dsimp only
 rw [hx]
 rfl
theorem run_ext3B (x : Operand) (ho : o.op = .extract x 1) {u v s : Value} (hx : f x = .tuple #[u, v, s]) (w : World) : (execOp f o).run Tryz.prog w = .ok (.value v) w := by
 unfold execOp
 rw [ho]
 dsimp only
 rw [hx]
 rfl
theorem run_ext3C (x : Operand) (ho : o.op = .extract x 2) {u v s : Value} (hx : f x = .tuple #[u, v, s]) (w : World) : (execOp f o).run Tryz.prog w = .ok (.value s) w := by
 unfold execOp
 rw [ho]
 dsimp only
 rw [hx]
 rfl
theorem run_eqlE {b : Bool} (x y : Operand) (ho : o.op = .binOp .eql 45 x y 45) {u v : Int} (hx : f x = .int .i64 u) (hy : f y = .int .i64 v) (hb : decide (u = v) = b) (w : World) : (execOp f o).run Tryz.prog w = .ok (.value (.bool b)) w := by
 have e : (u == v) = b := by rw [← hb, Bool.eq_iff_iff]; simp
 unfold execOp
 rw [ho]
 dsimp only
 rw [hx, hy]
 go_simp
end
theorem ndF_inR (n : Nd) (v : Value) : ∀ j, j < 4 → ndF n v (0 + 27 + 0 + j) = tF n.rl.I j := by
 intro j hj
 have := ndF_in n v hj
 rwa [Nat.mul_one] at this
theorem ndF_rl (n : Nd) (v : Value) : ∀ j, j < 12 → ndF n v (0 + 27 + j) = nrlF n.rl j := by
 intro j hj
 unfold ndF
 rw [if_neg (by omega), if_neg (by omega), if_neg (by omega), if_pos (by omega), show 0 + 27 + j - 27 = j by omega]
theorem ndF_he (n : Nd) (v : Value) {i : Nat} (hi : i < 4) : ndF n v (0 + 51 + i * 1) = .int .i64 (n.he i) := by
 unfold ndF
 rw [if_neg (by omega), if_neg (by omega), if_neg (by omega), if_neg (by omega), if_neg (by omega), if_pos (by omega), show 0 + 51 + i * 1 - 51 = i by omega]
 rfl
def nvdF (x : Int) (b : Bool) (u : Value) (i : Nat) : Value := if i = 0 then iV x else if i = 1 then .bool b else u
theorem ndF_vd (n : Nd) (v : Value) : ∀ j, j < 3 → ndF n v (0 + 71 + j) = nvdF n.vX n.vS v j := by
 intro j hj
 match j, hj with
 | 0, _ => rfl
 | 1, _ => rfl
 | 2, _ => rfl
theorem nrlF_one (r : Rl) : ∀ j, j < 12 → (nrlF r j).oneCell' = true := by
 intro j _
 unfold nrlF iV
 repeat' split
 all_goals rfl
theorem nvdF_one (x : Int) (b : Bool) (ao : Option Addr) (n c : Nat) : ∀ j, j < 3 → (nvdF x b (.slice ao n c) j).oneCell' = true := by
 intro j _
 unfold nvdF iV
 repeat' split
 all_goals rfl
theorem stP_all12 (g : Nat → Value) (h : Nat → Value) : ∀ j, j < 12 → stP g 0 12 h j = h j := fun j hj => by
 have := stP_in g (o := 0) (n := 12) h hj
 rwa [Nat.zero_add] at this
end Go.Proofs.YtdhblehhgpdpdaaGreat
namespace Go.Proofs.YtdhblehhgpdpdaaGreat
open Go.RowKit
theorem manyHr : Many Tryz.prog 129 4 := Many.of _ Tryz.underlying129 rfl (by kernel_rfl)
theorem manyAx : Many Tryz.prog 26 21 := Many.of _ Tryz.underlying26 rfl (by kernel_rfl)
theorem zeroHr (w : World) : (zeroValue 129).run Tryz.prog w = .ok (agV (fun _ => .slice none 0 0) 0 4) w := by kernel_rfl
section
variable {P : Program} {f : Operand → Value} {o : Oper}
theorem run_ixV1 (ty e : TypeId) (x y : Operand) (ho : o.op = .index ty x y) {len i : Nat} (hu : P.underlying ty = some (.array len e)) (T : OneC P e) {g : Nat → Value} {z : Int} (hx : f x = agV g 0 len) (hy : f y = .int .i64 z) (hz : z = (i : Int)) (hi : i < len) (w : World) :
  (execOp f o).run P w = .ok (.value (g i)) w := by
 subst hz
 have h2 : (i : Int) < (len : Int) := by omega
 have hc : (((List.range len).map fun j => g (0 + j)).toArray)[i]? = some (g i) := by
  rw [List.getElem?_toArray, List.getElem?_map, List.getElem?_range hi]
  show some (g (0 + i)) = _
  rw [Nat.zero_add]
 unfold execOp
 simp only [ho, hx, hy, agV, Instr.index, asIntOf, part, Sem.run_bind, Sem.run_pure, Result.andThen_ok, run_underlying hu]
 simp [h2, T.agg, T.size, hi]
theorem run_ixVM (ty e : TypeId) (x y : Operand) (ho : o.op = .index ty x y) {len i m N : Nat} (hu : P.underlying ty = some (.array len e)) (T : Many P e m) {g : Nat → Value} {z : Int} (hx : f x = agV g 0 N) (hN : len * m = N) (hy : f y = .int .i64 z) (hz : z = (i : Int)) (hi : i < len) (w : World) :
  (execOp f o).run P w = .ok (.value (agV g (i * m) m)) w := by
 subst hz hN
 have h2 : (i : Int) < (len : Int) := by omega
 have h3 : i * m + m ≤ len * m := by
  have : (i + 1) * m ≤ len * m := Nat.mul_le_mul_right m (by omega)
  rwa [Nat.succ_mul] at this
 have hc : (((List.range (len * m)).map fun j => g (0 + j)).toArray).extract (i * m) (i * m + m) = ((List.range m).map fun j => g (i * m + j)).toArray := by
  refine Array.ext_getElem? (fun j => ?_)
  rw [Array.getElem?_extract, List.size_toArray, List.length_map, List.length_range]
  by_cases hj : j < m
  ·rw [if_pos (by omega), List.getElem?_toArray, List.getElem?_map, List.getElem?_range (by omega), List.getElem?_toArray, List.getElem?_map, List.getElem?_range hj]
   show some (g (0 + (i * m + j))) = some (g (i * m + j))
   rw [Nat.zero_add]
  ·rw [if_neg (by omega), List.getElem?_toArray, List.getElem?_eq_none (by simp; omega)]
 unfold execOp
 simp only [ho, hx, hy, agV, Instr.index, asIntOf, Sem.run_bind, Sem.run_pure, Result.andThen_ok, run_underlying hu]
 rw [if_pos (show (0 : Int) ≤ (i : Int) ∧ (i : Int) < (len : Int) from ⟨by omega, h2⟩)]
 simp only [part, Sem.run_bind, Sem.run_pure, Result.andThen_ok, T.agg, T.size, if_true, Int.toNat_natCast, hc]
end
section
variable {f : Operand → Value} {o : Oper}
theorem run_cutI3 (x : Operand) (ho : o.op = .slice 31 x none none none) {b off : Nat} (hx : f x = .pointer (some ⟨b, off, none⟩)) (w : World) : (execOp f o).run Tryz.prog w = .ok (.value (.slice (some ⟨b, off, none⟩) 3 3)) w := by
 unfold execOp
 rw [ho]
 dsimp only
 rw [hx]
 go_simp
theorem run_cutB4 (x : Operand) (ho : o.op = .slice 27 x none none none) {b off : Nat} (hx : f x = .pointer (some ⟨b, off, none⟩)) (w : World) : (execOp f o).run Tryz.prog w = .ok (.value (.slice (some ⟨b, off, none⟩) 4 4)) w := by
 unfold execOp
 rw [ho]
 dsimp only
 rw [hx]
 go_simp
theorem run_cut43 (x : Operand) (ho : o.op = .slice 32 x none none none) {b off : Nat} (hx : f x = .pointer (some ⟨b, off, none⟩)) (w : World) : (execOp f o).run Tryz.prog w = .ok (.value (.slice (some ⟨b, off, none⟩) 4 4)) w := by
 unfold execOp
 rw [ho]
 dsimp only
 rw [hx]
 go_simp
theorem run_lenT (x : Operand) (ho : o.op = .call { callee := .builtin .len, args := #[x], argTypes := #[33] }) {ao : Option Addr} {n c : Nat} (hx : f x = .slice ao n c) (w : World) : (execOp f o).run Tryz.prog w = .ok (.value (.int .i64 ((n : Nat) : Int))) w := by
 unfold execOp
 rw [ho]
 dsimp only
 go_simp
end
end Go.Proofs.YtdhblehhgpdpdaaGreat
namespace Go.Proofs.YtdhblehhgpdpdaaGreat
open Go.RowKit
section
variable {f : Operand → Value} {o : Oper}
theorem run_leqI {b : Bool} (x y : Operand) (ho : o.op = .binOp .leq 3 x y 3) {u v : Int} (hx : f x = .int .i64 u) (hy : f y = .int .i64 v) (hb : decide (u ≤ v) = b) (w : World) : (execOp f o).run Tryz.prog w = .ok (.value (.bool b)) w := by
 subst hb
 unfold execOp
 rw [ho]
 dsimp only
 rw [hx, hy]
 go_simp
theorem run_rem8 (x y : Operand) (ho : o.op = .binOp .rem 3 x y 3) {u : Int} (hx : f x = .int .i64 u) (hy : f y = .int .i64 8) (h0 : 0 ≤ u) (w : World) : (execOp f o).run Tryz.prog w = .ok (.value (.int .i64 (u % 8))) w := by
 have e : u.tmod 8 = u % 8 := Int.tmod_eq_emod_of_nonneg h0
 unfold execOp
 rw [ho]
 dsimp only
 rw [hx, hy]
 go_simp
theorem run_quo8 (x y : Operand) (ho : o.op = .binOp .quo 3 x y 3) {u : Int} (hx : f x = .int .i64 u) (hy : f y = .int .i64 8) (h0 : 0 ≤ u) (h2 : u ≤ 9223372036854775807) (w : World) : (execOp f o).run Tryz.prog w = .ok (.value (.int .i64 (u / 8))) w := by
 have e : u.tdiv 8 = u / 8 := Int.tdiv_eq_ediv_of_nonneg h0
 have e2 : IntKind.i64.wrap (u / 8) = u / 8 := by rw [IntKind.wrap_i64]; omega
 unfold execOp
 rw [ho]
 dsimp only
 rw [hx, hy]
 go_simp
theorem run_shrI (x y : Operand) (ho : o.op = .binOp .shr 3 x y 3) {u : Int} {s : Nat} (hx : f x = .int .i64 u) (hy : f y = .int .i64 (s : Int)) (hs : s < 64) (w : World) : (execOp f o).run Tryz.prog w = .ok (.value (.int .i64 (u / 2 ^ s))) w := by
 unfold execOp
 rw [ho]
 dsimp only
 rw [hx, hy]
 go_simp
theorem run_and1 (x y : Operand) (ho : o.op = .binOp .and 3 x y 3) {u : Int} (hx : f x = .int .i64 u) (hy : f y = .int .i64 1) (h0 : 0 ≤ u) (h1 : u ≤ 15) (w : World) : (execOp f o).run Tryz.prog w = .ok (.value (.int .i64 (u % 2))) w := by
 obtain ⟨k, rfl⟩ : ∃ k : Nat, u = (k : Int) := ⟨u.toNat, by omega⟩
 have hk : k < 16 := by omega
 unfold execOp
 rw [ho]
 dsimp only
 rw [hx, hy]
 clear hx hy ho h0 h1
 match k, hk with
 | 0, _ => change _ = _; kernel_rfl
 | 1, _ => change _ = _; kernel_rfl
 | 2, _ => change _ = _; kernel_rfl
 | 3, _ => change _ = _; kernel_rfl
 | 4, _ => change _ = _; kernel_rfl
 | 5, _ => change _ = _; kernel_rfl
 | 6, _ => change _ = _; kernel_rfl
 | 7, _ => change _ = _; kernel_rfl
 | 8, _ => change _ = _; kernel_rfl
 | 9, _ => change _ = _; kernel_rfl
 | 10, _ => change _ = _; kernel_rfl
 | 11, _ => change _ = _; kernel_rfl
 | 12, _ => change _ = _; kernel_rfl
 | 13, _ => change _ = _; kernel_rfl
 | 14, _ => change _ = _; kernel_rfl
 | 15, _ => change _ = _; kernel_rfl
 | k + 16, h => exact absurd h (by omega)
theorem run_bldS0 (ho : o.op = .build 25 #[]) (w : World) : (execOp f o).run Tryz.prog w = .ok (.value (agV (nstF St.nil') 0 7)) w := by
 unfold execOp
 rw [ho]
 go_simp
 rfl
theorem run_bldS (a b c d e g h : Operand) (ho : o.op = .build 25 #[(0, a), (1, b), (2, c), (3, d), (4, e), (5, g), (6, h)]) {s : St} (h0 : f a = .int .i64 s.X) (h1 : f b = .int .i64 s.V) (h2 : f c = .int .i64 s.P00) (h3 : f d = .int .i64 s.P01) (h4 : f e = .int .i64 s.P11) (h5 : f g = .bool s.B) (h6 : f h = .int .i64 s.M) (w : World) :
  (execOp f o).run Tryz.prog w = .ok (.value (agV (nstF s) 0 7)) w := by
 unfold execOp
 rw [ho]
 go_simp
 rfl
theorem run_bldA0 (ho : o.op = .build 26 #[]) (w : World) : (execOp f o).run Tryz.prog w = .ok (.value (agV (fun j => nstF St.nil' (j % 7)) 0 21)) w := by
 unfold execOp
 rw [ho]
 dsimp only
 change _ = _
 kernel_rfl
theorem run_bldR0 (ho : o.op = .build 30 #[]) (w : World) : (execOp f o).run Tryz.prog w = .ok (.value (agV (nrlF zeroR) 0 12)) w := by
 unfold execOp
 rw [ho]
 go_simp
 rfl
theorem run_bldR2 (a b : Operand) (ho : o.op = .build 30 #[(1, a), (2, b)]) {m j : Nat → Int} (h0 : f a = agV (fun i => iV (m i)) 0 4) (h1 : f b = agV (fun i => iV (j i)) 0 4) (w : World) :
  (execOp f o).run Tryz.prog w = .ok (.value (agV (nrlF ⟨fun _ => false, m, j⟩) 0 12)) w := by
 have h0' : f a = .agg #[.int .i64 (m 0), .int .i64 (m 1), .int .i64 (m 2), .int .i64 (m 3)] := h0
 have h1' : f b = .agg #[.int .i64 (j 0), .int .i64 (j 1), .int .i64 (j 2), .int .i64 (j 3)] := h1
 unfold execOp
 rw [ho]
 simp only [List.map_toArray, List.map_cons, List.map_nil]
 rw [h0', h1']
 clear h0 h1 h0' h1' ho
 change _ = _
 kernel_rfl
theorem run_cutFrom (x y : Operand) (ho : o.op = .slice 79 x (some y) none none) {a : Addr} {n cap i : Nat} {z : Int} (hx : f x = .slice (some a) n cap) (hy : f y = .int .i64 z) (hz : z = (i : Int)) (hi : i ≤ n) (hc : i < cap) (w : World) :
  (execOp f o).run Tryz.prog w = .ok (.value (.slice (some (a.add i)) (n - i) (cap - i))) w := by
 subst hz
 have hi2 : (i : Int) ≤ n := by omega
 have hne : ¬ cap = i := by omega
 unfold execOp
 rw [ho]
 simp only [Option.map_some, Option.map_none]
 rw [hx, hy]
 go_simp
end
end Go.Proofs.YtdhblehhgpdpdaaGreat
