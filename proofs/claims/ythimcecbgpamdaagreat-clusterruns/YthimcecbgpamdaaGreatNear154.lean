/- Joined: OpenIp, OpenIp2, RolEq, NodEq, RefNod12, RefCl1, RefCl2, RefNod3, BigWalks, BigGive, BigAdd. -/
import Derived.Test.YthimcecbgpamdaaGreatNear141
import Derived.Test.YthimcecbgpamdaaGreatNear110
import Derived.Test.YthimcecbgpamdaaGreatNear172
import Derived.Test.YthimcecbgpamdaaGreatNear90
import Derived.Test.YthimcecbgpamdaaGreatNear156
import Derived.Test.YthimcecbgpamdaaGreatNear160
import Derived.Test.YthimcecbgpamdaaGreatNear88
import Derived.Test.YthimcecbgpamdaaGreatNear120
import Derived.Test.YthimcecbgpamdaaGreatNear144
import Derived.Test.YthimcecbgpamdaaGreatNear173
import Derived.Test.YthimcecbgpamdaaGreatNear170
import Derived.OneCell
import Derived.Deep.OwnRows
namespace Go.Proofs.YthimcecbgpamdaaGreat
open Go.ChangeShapes Go.WideShapes Go.ChangeAt Go.RowKit Go.Joins
set_option maxRecDepth 100000

instance : Inhabited Lj := ⟨⟨⟨0, 0, 0, fun _ => 0⟩, none, 0⟩⟩
instance : Inhabited Li := ⟨⟨fun _ _ => 0, 0, [], none, 0⟩⟩
theorem cellsLyN : Tryz.prog.cellsOf 78 = 3 := by kernel_rfl
theorem bytesLyN : Tryz.prog.bytesOf 78 = 40 := by kernel_rfl
theorem cellsIpN : Tryz.prog.cellsOf 43 = 14 := by kernel_rfl
theorem bytesIpN : Tryz.prog.bytesOf 43 = 128 := by kernel_rfl
theorem cellsU8N : Tryz.prog.cellsOf 76 = 1 := by kernel_rfl
theorem cellsLsN : Tryz.prog.cellsOf 41 = 1 := by kernel_rfl
section
variable {H : Type} {enc : TypeId × Value → H} {w : World} {base : Nat} {held : Bool}
/-- A row of elements of many cells, opened. -/
theorem open_many {t e : TypeId} {s bytes : Nat} {α : Type} [Inhabited α] (F : α → Nat → Value) (R : α → Prop) (ht : Tryz.prog.underlying t = some (.slice e)) (hce : Tryz.prog.cellsOf e = s) (hbe : Tryz.prog.bytesOf e = bytes) (hs : 0 < s)
    (op : ∀ fuel cs x, DataW.trod enc Tryz.prog w base (fun _ => true) held fuel e cs = some x → (∀ n ∈ x.1.weights Tryz.prog e, n ≤ reachBytes) → ∃ c, cs.length = s ∧ (∀ j, j < s → cs[j]? = some (F c j)) ∧ R c)
    {fuel : Nat} {v : Value} {x : DataW H × List MemPlace} (h : DataW.trod enc Tryz.prog w base (fun _ => true) held fuel t [v] = some x) (hsz : ∀ n ∈ x.1.weights Tryz.prog t, n ≤ reachBytes) :
    ∃ (mo : Option Addr) (mc : Nat) (L : List α), v = .slice mo L.length mc ∧ RdS F s w mo L ∧ (∀ c, c ∈ L → R c) ∧ L.length * bytes ≤ reachBytes ∧ L.length ≤ mc := by
  rcases Go.Deep.open_slice ht h with ⟨hcs, _⟩ | ⟨a, len, c, m, n, D, Pl, hcs, _, hl, hm, hmm, ex, hx⟩
  · simp at hcs
    exact ⟨none, 0, [], hcs, fun h => absurd h (by simp), fun _ h => absurd h (by simp), by show 0 * _ ≤ _; omega, Nat.le_refl _⟩
  · simp at hcs
    subst hcs
    simp only [if_true] at hmm
    subst hmm
    have ex1 : x.1 = .slice ((List.range len).map D) ((List.range (m - len)).map fun j => D (len + j)) := congrArg Prod.fst ex
    have hw : ∀ i, i < len → ∀ k ∈ (D i).weights Tryz.prog e, k ≤ reachBytes := fun i hi k hk => hsz k (by
      rw [ex1]
      simp only [DataW.weights, ht]
      exact List.mem_cons_of_mem _ (List.mem_append.2 (Or.inl (weightsAll_memN (List.mem_map.2 ⟨i, List.mem_range.2 hi, rfl⟩) k hk))))
    have hb : m * bytes ≤ reachBytes := hsz _ (by
      rw [ex1]
      simp only [DataW.weights, ht, hbe]
      refine List.mem_cons.2 (Or.inl ?_)
      rw [List.length_map, List.length_map, List.length_range, List.length_range]
      congr 1
      omega)
    obtain ⟨G, hG⟩ := Go.Deep.choose_lt (α := α) (n := len) (p := fun i c => (∀ k, k < s → w.cell? ((a.add (i * s)).add k) = some (F c k)) ∧ R c) (fun i hi => by
      obtain ⟨cs', h1, h2⟩ := hx i (by omega)
      rw [hce] at h1
      obtain ⟨cc, e, h3, h4⟩ := op _ _ _ h2 (hw i hi)
      refine ⟨cc, fun k hk => ?_, h4⟩
      obtain ⟨_, _, hcc⟩ := World.cells?_some h1
      rw [hcc k hk, h3 k hk])
    have el : ((List.range len).map G).length = len := by simp
    have hat : ∀ i c, ((List.range len).map G)[i]? = some c → i < len ∧ c = G i := fun i c hi => by
      have hlt : i < len := by have := (List.getElem?_eq_some_iff.1 hi).1; rw [el] at this; exact this
      rw [List.getElem?_map, List.getElem?_range hlt] at hi
      exact ⟨hlt, (Option.some.inj hi).symm⟩
    refine ⟨some a, m, (List.range len).map G, by rw [el], fun hl0 => ?_, fun c hc => ?_, by rw [el]; exact Nat.le_trans (Nat.mul_le_mul_right _ hl) hb, by rw [el]; exact hl⟩
    · rw [el] at hl0
      obtain ⟨b, o, spot⟩ := a
      have hn : spot = none := by
        have h0 : w.cell? (((⟨b, o, spot⟩ : Addr).add (0 * s)).add 0) = some (F (G 0) 0) := (hG 0 hl0).1 0 hs
        simpa [Addr.add] using World.cell?_spot h0
      subst hn
      refine ⟨b, o, rfl, fun i c hi k hk => ?_⟩
      obtain ⟨hlt, rfl⟩ := hat i c hi
      have := (hG i hlt).1 k hk
      rw [Addr.add_lit, Addr.add_lit] at this
      exact this
    · obtain ⟨i, hi⟩ := List.getElem?_of_mem hc
      obtain ⟨hlt, rfl⟩ := hat i c hi
      exact (hG i hlt).2
theorem open_ljC (fuel : Nat) (cs : List Value) (x : DataW H × List MemPlace) (h : DataW.trod enc Tryz.prog w base (fun _ => true) held fuel 78 cs = some x) (hsz : ∀ n ∈ x.1.weights Tryz.prog 78, n ≤ reachBytes) :
    ∃ c : Lj, cs.length = 3 ∧ (∀ j, j < 3 → cs[j]? = some (ljF c j)) ∧ LbRd w c := by
  obtain ⟨xs, n, _, ex, hl, hlen, hf⟩ := DataW.trod_struct Tryz.underlying78 h
  rw [cellsLyN] at hl
  match cs, hl with
  | [c0, c1, c2], _ =>
    match xs, hlen with
    | [y0, y1, y2], _ =>
      have g0 : DataW.trod enc Tryz.prog w base (fun _ => true) held n 3 (List.take (Tryz.prog.cellsOf 3) [c0, c1, c2]) = some y0 := hf 0 _ rfl
      have g1 : DataW.trod enc Tryz.prog w base (fun _ => true) held n 3 (List.take (Tryz.prog.cellsOf 3) [c1, c2]) = some y1 := hf 1 _ rfl
      have g2 : DataW.trod enc Tryz.prog w base (fun _ => true) held n 76 (List.take (Tryz.prog.cellsOf 76) [c2]) = some y2 := hf 2 _ rfl
      rw [cellsIntN] at g0 g1
      rw [cellsU8N] at g2
      obtain ⟨a0, q0, _, w0⟩ := DataW.trod_int Tryz.underlying3 (show DataW.trod enc Tryz.prog w base (fun _ => true) held n 3 [c0] = some y0 from g0)
      obtain ⟨a1, q1, _, w1⟩ := DataW.trod_int Tryz.underlying3 (show DataW.trod enc Tryz.prog w base (fun _ => true) held n 3 [c1] = some y1 from g1)
      simp at q0 q1
      subst q0 q1
      have g2' : DataW.trod enc Tryz.prog w base (fun _ => true) held n 76 [c2] = some y2 := g2
      obtain ⟨ao, len, cap, g, rfl, ha⟩ := open_bytes g2' (fun k hk => hsz k (by
        rw [ex]
        simp only [DataW.weights, Tryz.underlying78, List.map, DataW.weightsEach]
        simp only [List.mem_append]
        exact Or.inr (Or.inr (Or.inl hk))))
      refine ⟨⟨⟨a0, a1, len, g⟩, ao, cap⟩, rfl, fun j hj => ?_, ha.1, ha.2.2.2, ha.2.1, ha.2.2.1⟩
      match j, hj with
      | 0, _ => rfl
      | 1, _ => rfl
      | 2, _ => rfl
theorem open_liC (fuel : Nat) (cs : List Value) (x : DataW H × List MemPlace) (h : DataW.trod enc Tryz.prog w base (fun _ => true) held fuel 43 cs = some x) (hsz : ∀ n ∈ x.1.weights Tryz.prog 43, n ≤ reachBytes) :
    ∃ c : Li, cs.length = 14 ∧ (∀ j, j < 14 → cs[j]? = some (inpF c j)) ∧ LiOK w c := by
  obtain ⟨xs, m, _, ex, hl, hlen, hx⟩ := DataW.trod_struct Tryz.underlying43 h
  have hl : cs.length = 14 := hl.trans cellsIpN
  have hlen : xs.length = 3 := hlen
  have p0 := flat_part (n := 12) Tryz.underlying43 (i := 0) rfl flat_i43 h
  have p1 := flat_part (n := 1) Tryz.underlying43 (i := 1) rfl flat_int h
  have h2 := hx 2 _ rfl
  rw [List.getElem?_eq_getElem (by omega)] at h2
  obtain ⟨y, ey⟩ : ∃ y, y = xs[2] := ⟨_, rfl⟩
  rw [← ey] at h2
  have h2' : DataW.trod enc Tryz.prog w base (fun _ => true) held m 41 ((cs.drop 13).take (Tryz.prog.cellsOf 41)) = some y := h2
  rw [cellsLsN] at h2'
  obtain ⟨c0, ec⟩ : ∃ c0, (cs.drop 13).take 1 = [c0] := by
    have : ((cs.drop 13).take 1).length = 1 := by rw [List.length_take, List.length_drop, hl]; rfl
    match hq : (cs.drop 13).take 1, this with
    | [c0], _ => exact ⟨c0, rfl⟩
  rw [ec] at h2'
  have hg : cs[13]? = some c0 := by rw [show (13 : Nat) = 13 + 0 from rfl, ← drop_take_get (n := 1) (by omega), ec]; rfl
  obtain ⟨lo, lc, LL, rfl, hr, hR, hb, hc⟩ := open_many ljF (LbRd w) Tryz.underlying41 cellsLyN bytesLyN (by omega) open_ljC h2' (fun n hn => hsz n (by
    rw [ex]
    simp only [DataW.weights, Tryz.underlying43]
    exact DataW.weights_mem_each (j := 2) (t := 41) (d := y.1) rfl (by rw [List.getElem?_map, List.getElem?_eq_getElem (by omega), ← ey]; rfl) n hn))
  have hk : ∀ j, j < 13 → CellK false (cs.getD j (.int .i64 0)) := fun j hj => by
    by_cases r0 : j < 12
    · exact cells_of (o := 0) (K2 := fun _ => false) p0 (by omega) (by omega) (by omega) rfl
    · exact cells_of (o := 12) (K2 := fun _ => false) p1 (by omega) (by omega) (by omega) rfl
  have hR64 : ∀ j, R64 (vI (cs.getD j (.int .i64 0))) := fun j => by
    by_cases hj : j < 13
    · exact (hk j hj).R
    by_cases hj2 : j = 13
    · rw [hj2, List.getD_eq_getElem?_getD, hg]; exact R64_nought
    · rw [List.getD_eq_getElem?_getD, List.getElem?_eq_none (by omega)]; exact R64_nought
  have hat : ∀ j, j < 14 → cs[j]? = some (cs.getD j (.int .i64 0)) := fun j hj => by rw [List.getD_eq_getElem?_getD, List.getElem?_eq_getElem (by omega)]; rfl
  refine ⟨⟨fun s a => vI (cs.getD (s * 3 + a) (.int .i64 0)), vI (cs.getD 12 (.int .i64 0)), LL, lo, lc⟩, hl, fun j hj => ?_, ⟨⟨fun s a => hR64 _, hR64 _, fun y hy i => ?_⟩, ⟨hr, hR⟩, hc⟩⟩
  · unfold inpF ipF
    dsimp only
    by_cases r0 : j < 12
    · rw [if_pos r0, show j / 3 * 3 + j % 3 = j by omega, (hk j (by omega)).i]
      exact hat j hj
    by_cases r1 : j = 12
    · rw [if_neg r0, if_pos r1, (hk 12 (by omega)).i, r1]
      exact hat 12 (by omega)
    · rw [if_neg r0, if_neg r1, show j = 13 by omega]
      exact hg
  · obtain ⟨c, hcm, rfl⟩ := List.mem_map.1 hy
    exact (hR c hcm).2.2.2 i
theorem open_inpsArg {r : Reach} {b0 : Nat} {v : Value} {d : DataW H} {p : List MemPlace} (hv : Value.okWide Tryz.prog w r b0 49 v) (h : DataW.Trod enc Tryz.prog w base (fun _ => true) held 49 v d p) (hsz : ∀ n ∈ d.weights Tryz.prog 49, n ≤ reachBytes) :
    ∃ (mo : Option Addr) (mc : Nat) (L : List Li), v = .slice mo L.length mc ∧ RdS inpF 14 w mo L ∧ (∀ c, c ∈ L → LiOK w c) ∧ L.length * 128 ≤ reachBytes ∧ L.length ≤ mc := by
  obtain ⟨ao, len, cap, rfl⟩ := okWide_slice Tryz.underlying49 hv
  obtain ⟨fuel, hf⟩ := h
  have hf' : DataW.trod enc Tryz.prog w base (fun _ => true) held fuel 49 [.slice ao len cap] = some (d, p) := hf
  exact open_many inpF (LiOK w) Tryz.underlying49 cellsIpN bytesIpN (by omega) open_liC hf' hsz
end

end Go.Proofs.YthimcecbgpamdaaGreat

namespace Go.Proofs.YthimcecbgpamdaaGreat
open Go.ChangeShapes Go.WideShapes Go.ChangeAt Go.RowKit Go.Joins
set_option maxRecDepth 100000

section
variable {H : Type} {enc : TypeId × Value → H} {w : World} {base : Nat} {held : Bool}
theorem open_liC2 (fuel : Nat) (cs : List Value) (x : DataW H × List MemPlace) (h : DataW.trod enc Tryz.prog w base (fun _ => true) held fuel 43 cs = some x) (hsz : ∀ n ∈ x.1.weights Tryz.prog 43, n ≤ reachBytes) :
    ∃ c : Li, cs.length = 14 ∧ (∀ j, j < 14 → cs[j]? = some (inpF c j)) ∧ LiOK w c ∧ c.LL.length * 40 ≤ 140737488351232 := by
  obtain ⟨xs, m, _, ex, hl, hlen, hx⟩ := DataW.trod_struct Tryz.underlying43 h
  have hl : cs.length = 14 := hl.trans cellsIpN
  have hlen : xs.length = 3 := hlen
  have p0 := flat_part (n := 12) Tryz.underlying43 (i := 0) rfl flat_i43 h
  have p1 := flat_part (n := 1) Tryz.underlying43 (i := 1) rfl flat_int h
  have h2 := hx 2 _ rfl
  rw [List.getElem?_eq_getElem (by omega)] at h2
  obtain ⟨y, ey⟩ : ∃ y, y = xs[2] := ⟨_, rfl⟩
  rw [← ey] at h2
  have h2' : DataW.trod enc Tryz.prog w base (fun _ => true) held m 41 ((cs.drop 13).take (Tryz.prog.cellsOf 41)) = some y := h2
  rw [cellsLsN] at h2'
  obtain ⟨c0, ec⟩ : ∃ c0, (cs.drop 13).take 1 = [c0] := by
    have : ((cs.drop 13).take 1).length = 1 := by rw [List.length_take, List.length_drop, hl]; rfl
    match hq : (cs.drop 13).take 1, this with
    | [c0], _ => exact ⟨c0, rfl⟩
  rw [ec] at h2'
  have hg : cs[13]? = some c0 := by rw [show (13 : Nat) = 13 + 0 from rfl, ← drop_take_get (n := 1) (by omega), ec]; rfl
  obtain ⟨lo, lc, LL, rfl, hr, hR, hb, hc⟩ := open_many ljF (LbRd w) Tryz.underlying41 cellsLyN bytesLyN (by omega) open_ljC h2' (fun n hn => hsz n (by
    rw [ex]
    simp only [DataW.weights, Tryz.underlying43]
    exact DataW.weights_mem_each (j := 2) (t := 41) (d := y.1) rfl (by rw [List.getElem?_map, List.getElem?_eq_getElem (by omega), ← ey]; rfl) n hn))
  have hk : ∀ j, j < 13 → CellK false (cs.getD j (.int .i64 0)) := fun j hj => by
    by_cases r0 : j < 12
    · exact cells_of (o := 0) (K2 := fun _ => false) p0 (by omega) (by omega) (by omega) rfl
    · exact cells_of (o := 12) (K2 := fun _ => false) p1 (by omega) (by omega) (by omega) rfl
  have hR64 : ∀ j, R64 (vI (cs.getD j (.int .i64 0))) := fun j => by
    by_cases hj : j < 13
    · exact (hk j hj).R
    by_cases hj2 : j = 13
    · rw [hj2, List.getD_eq_getElem?_getD, hg]; exact R64_nought
    · rw [List.getD_eq_getElem?_getD, List.getElem?_eq_none (by omega)]; exact R64_nought
  have hat : ∀ j, j < 14 → cs[j]? = some (cs.getD j (.int .i64 0)) := fun j hj => by rw [List.getD_eq_getElem?_getD, List.getElem?_eq_getElem (by omega)]; rfl
  refine ⟨⟨fun s a => vI (cs.getD (s * 3 + a) (.int .i64 0)), vI (cs.getD 12 (.int .i64 0)), LL, lo, lc⟩, hl, fun j hj => ?_, ⟨⟨⟨fun s a => hR64 _, hR64 _, fun y hy i => ?_⟩, ⟨hr, hR⟩, hc⟩, hb⟩⟩
  · unfold inpF ipF
    dsimp only
    by_cases r0 : j < 12
    · rw [if_pos r0, show j / 3 * 3 + j % 3 = j by omega, (hk j (by omega)).i]
      exact hat j hj
    by_cases r1 : j = 12
    · rw [if_neg r0, if_pos r1, (hk 12 (by omega)).i, r1]
      exact hat 12 (by omega)
    · rw [if_neg r0, if_neg r1, show j = 13 by omega]
      exact hg
  · obtain ⟨c, hcm, rfl⟩ := List.mem_map.1 hy
    exact (hR c hcm).2.2.2 i
theorem open_inpsArg2 {r : Reach} {b0 : Nat} {v : Value} {d : DataW H} {p : List MemPlace} (hv : Value.okWide Tryz.prog w r b0 49 v) (h : DataW.Trod enc Tryz.prog w base (fun _ => true) held 49 v d p) (hsz : ∀ n ∈ d.weights Tryz.prog 49, n ≤ reachBytes) :
    ∃ (mo : Option Addr) (mc : Nat) (L : List Li), v = .slice mo L.length mc ∧ RdS inpF 14 w mo L ∧ (∀ c, c ∈ L → LiOK w c ∧ c.LL.length * 40 ≤ 140737488351232) ∧ L.length * 128 ≤ reachBytes ∧ L.length ≤ mc := by
  obtain ⟨ao, len, cap, rfl⟩ := okWide_slice Tryz.underlying49 hv
  obtain ⟨fuel, hf⟩ := h
  have hf' : DataW.trod enc Tryz.prog w base (fun _ => true) held fuel 49 [.slice ao len cap] = some (d, p) := hf
  exact open_many inpF (fun c => LiOK w c ∧ c.LL.length * 40 ≤ 140737488351232) Tryz.underlying49 cellsIpN bytesIpN (by omega) open_liC2 hf' hsz
end

end Go.Proofs.YthimcecbgpamdaaGreat

namespace Go.Proofs.YthimcecbgpamdaaGreat
open Go.RowKit

theorem run_eqI4 (d : Nat) (a b c e : Int) (w : World) : (Op.equalIn (d + 1 + 1) 28 (.agg #[.int .i64 a, .int .i64 b, .int .i64 c, .int .i64 e]) (.agg #[.int .i64 a, .int .i64 b, .int .i64 c, .int .i64 e])).run Tryz.prog w = .ok true w := by
  have u3 := Tryz.underlying3
  have a3 := Tryz.isAgg3
  have z3 := Tryz.sizeOf3
  have ta : (a == a) = true := by simp
  have tb : (b == b) = true := by simp
  have tc : (c == c) = true := by simp
  have td : (e == e) = true := by simp
  rw [Op.equalIn]
  simp only [Sem.run_bind, run_underlying Tryz.underlying28, Result.andThen_ok]
  simp only [Std.Legacy.Range.forIn_eq_forIn_range', Std.Legacy.Range.size, Nat.sub_zero, Nat.add_sub_cancel, Nat.div_one, List.range'_succ, List.range'_zero, List.forIn_cons, List.forIn_nil]
  go_simp
theorem run_eqB4 (d : Nat) (a b c e : Bool) (w : World) : (Op.equalIn (d + 1 + 1) 27 (.agg #[.bool a, .bool b, .bool c, .bool e]) (.agg #[.bool a, .bool b, .bool c, .bool e])).run Tryz.prog w = .ok true w := by
  have u3 := Tryz.underlying4
  have a3 := Tryz.isAgg4
  have z3 := Tryz.sizeOf4
  have ta : (a == a) = true := by simp
  have tb : (b == b) = true := by simp
  have tc : (c == c) = true := by simp
  have td : (e == e) = true := by simp
  rw [Op.equalIn]
  simp only [Sem.run_bind, run_underlying Tryz.underlying27, Result.andThen_ok]
  simp only [Std.Legacy.Range.forIn_eq_forIn_range', Std.Legacy.Range.size, Nat.sub_zero, Nat.add_sub_cancel, Nat.div_one, List.range'_succ, List.range'_zero, List.forIn_cons, List.forIn_nil]
  go_simp
set_option maxRecDepth 100000 in
theorem run_eqRl (r : Rl) (w : World) : (Op.equalIn 10000 30 (rollV r) (rollV r)).run Tryz.prog w = .ok true w := by
  have u3 := Tryz.underlying28
  have a3 := Tryz.isAgg28
  have z3 := Tryz.sizeOf28
  have u4 := Tryz.underlying27
  have a4 := Tryz.isAgg27
  have z4 := Tryz.sizeOf27
  have h0 := run_eqB4 9997 (r.I 0) (r.I 1) (r.I 2) (r.I 3) w
  have h1 := run_eqI4 9997 (r.M 0) (r.M 1) (r.M 2) (r.M 3) w
  have h2 := run_eqI4 9997 (r.J 0) (r.J 1) (r.J 2) (r.J 3) w
  unfold rollV
  rw [show (10000 : Nat) = 9997 + 1 + 1 + 1 from rfl, Op.equalIn]
  simp only [Sem.run_bind, run_underlying Tryz.underlying30, Result.andThen_ok]
  go_simp
theorem run_eqlRl {f : Operand → Value} {o : Oper} (x y : Operand) (ho : o.op = .binOp .eql 30 x y 30) {r : Rl} (hx : f x = rollV r) (hy : f y = rollV r) (w : World) :
    (execOp f o).run Tryz.prog w = .ok (.value (.bool true)) w := by
  have h0 : (Op.equalIn 9999 27 (.agg #[.bool (r.I 0), .bool (r.I 1), .bool (r.I 2), .bool (r.I 3)]) (.agg #[.bool (r.I 0), .bool (r.I 1), .bool (r.I 2), .bool (r.I 3)])).run Tryz.prog w = .ok true w := run_eqB4 9997 (r.I 0) (r.I 1) (r.I 2) (r.I 3) w
  have h1 : (Op.equalIn 9999 28 (.agg #[.int .i64 (r.M 0), .int .i64 (r.M 1), .int .i64 (r.M 2), .int .i64 (r.M 3)]) (.agg #[.int .i64 (r.M 0), .int .i64 (r.M 1), .int .i64 (r.M 2), .int .i64 (r.M 3)])).run Tryz.prog w = .ok true w := run_eqI4 9997 (r.M 0) (r.M 1) (r.M 2) (r.M 3) w
  have h2 : (Op.equalIn 9999 28 (.agg #[.int .i64 (r.J 0), .int .i64 (r.J 1), .int .i64 (r.J 2), .int .i64 (r.J 3)]) (.agg #[.int .i64 (r.J 0), .int .i64 (r.J 1), .int .i64 (r.J 2), .int .i64 (r.J 3)])).run Tryz.prog w = .ok true w := run_eqI4 9997 (r.J 0) (r.J 1) (r.J 2) (r.J 3) w
  unfold rollV at hx hy
  unfold execOp
  rw [ho]
  dsimp only
  rw [hx, hy]
  go_simp

end Go.Proofs.YthimcecbgpamdaaGreat

namespace Go.Proofs.YthimcecbgpamdaaGreat
open Go.RowKit

theorem run_eqI3 (d : Nat) (g : Nat → Int) (w : World) : (Op.equalIn (d + 1 + 1) 31 (.agg #[.int .i64 (g 0), .int .i64 (g 1), .int .i64 (g 2)]) (.agg #[.int .i64 (g 0), .int .i64 (g 1), .int .i64 (g 2)])).run Tryz.prog w = .ok true w := by
  have u3 := Tryz.underlying3
  have a3 := Tryz.isAgg3
  have z3 := Tryz.sizeOf3
  have t0 : (g 0 == g 0) = true := by simp
  have t1 : (g 1 == g 1) = true := by simp
  have t2 : (g 2 == g 2) = true := by simp
  rw [Op.equalIn]
  simp only [Sem.run_bind, run_underlying Tryz.underlying31, Result.andThen_ok]
  simp only [Std.Legacy.Range.forIn_eq_forIn_range', Std.Legacy.Range.size, Nat.sub_zero, Nat.add_sub_cancel, Nat.div_one, List.range'_succ, List.range'_zero, List.forIn_cons, List.forIn_nil]
  go_simp
theorem run_eqSt (d : Nat) (s : St) (w : World) : (Op.equalIn (d + 1 + 1) 25 (.agg #[.int .i64 (s).X, .int .i64 (s).V, .int .i64 (s).P00, .int .i64 (s).P01, .int .i64 (s).P11, .bool (s).B, .int .i64 (s).M]) (.agg #[.int .i64 (s).X, .int .i64 (s).V, .int .i64 (s).P00, .int .i64 (s).P01, .int .i64 (s).P11, .bool (s).B, .int .i64 (s).M])).run Tryz.prog w = .ok true w := by
  have u3 := Tryz.underlying3
  have a3 := Tryz.isAgg3
  have z3 := Tryz.sizeOf3
  have u4 := Tryz.underlying4
  have a4 := Tryz.isAgg4
  have z4 := Tryz.sizeOf4
  have tX : (s.X == s.X) = true := by simp
  have tV : (s.V == s.V) = true := by simp
  have tP00 : (s.P00 == s.P00) = true := by simp
  have tP01 : (s.P01 == s.P01) = true := by simp
  have tP11 : (s.P11 == s.P11) = true := by simp
  have tB : (s.B == s.B) = true := by simp
  have tM : (s.M == s.M) = true := by simp
  rw [Op.equalIn]
  simp only [Sem.run_bind, run_underlying Tryz.underlying25, Result.andThen_ok]
  go_simp
theorem run_eqlTn {f : Operand → Value} {o : Oper} (x y : Operand) (ho : o.op = .binOp .eql 23 x y 23) {t : Tn} (hx : f x = agV (ntnF t) 0 4) (hy : f y = agV (ntnF t) 0 4) (w : World) : (execOp f o).run Tryz.prog w = .ok (.value (.bool true)) w := by
  have hx' : f x = .agg #[.int .i64 t.Dt, .int .i64 t.Q, .int .i64 t.R, .int .i64 t.G] := hx
  have hy' : f y = .agg #[.int .i64 t.Dt, .int .i64 t.Q, .int .i64 t.R, .int .i64 t.G] := hy
  clear hx hy
  have u3 := Tryz.underlying3
  have a3 := Tryz.isAgg3
  have z3 := Tryz.sizeOf3
  unfold execOp
  rw [ho]
  dsimp only
  rw [hx', hy']
  go_simp
theorem run_eqlI4 {f : Operand → Value} {o : Oper} (x y : Operand) (ho : o.op = .binOp .eql 28 x y 28) {g : Nat → Int} (hx : f x = agV (fun j => iV (g j)) 0 4) (hy : f y = agV (fun j => iV (g j)) 0 4) (w : World) : (execOp f o).run Tryz.prog w = .ok (.value (.bool true)) w := by
  have hx' : f x = .agg #[.int .i64 (g 0), .int .i64 (g 1), .int .i64 (g 2), .int .i64 (g 3)] := hx
  have hy' : f y = .agg #[.int .i64 (g 0), .int .i64 (g 1), .int .i64 (g 2), .int .i64 (g 3)] := hy
  clear hx hy
  have h0 := run_eqI4 9998 (g 0) (g 1) (g 2) (g 3) w
  unfold execOp
  rw [ho]
  dsimp only
  rw [hx', hy']
  go_simp
theorem run_eqlI3 {f : Operand → Value} {o : Oper} (x y : Operand) (ho : o.op = .binOp .eql 31 x y 31) {g : Nat → Int} (hx : f x = agV (fun j => iV (g j)) 0 3) (hy : f y = agV (fun j => iV (g j)) 0 3) (w : World) : (execOp f o).run Tryz.prog w = .ok (.value (.bool true)) w := by
  have hx' : f x = .agg #[.int .i64 (g 0), .int .i64 (g 1), .int .i64 (g 2)] := hx
  have hy' : f y = .agg #[.int .i64 (g 0), .int .i64 (g 1), .int .i64 (g 2)] := hy
  clear hx hy
  have h0 := run_eqI3 9998 g w
  unfold execOp
  rw [ho]
  dsimp only
  rw [hx', hy']
  go_simp
set_option maxRecDepth 100000 in
theorem run_eqlSt3A (a : Nat → St) (w : World) : (Op.equalIn 10000 26 (.agg #[.int .i64 (a 0).X, .int .i64 (a 0).V, .int .i64 (a 0).P00, .int .i64 (a 0).P01, .int .i64 (a 0).P11, .bool (a 0).B, .int .i64 (a 0).M, .int .i64 (a 1).X, .int .i64 (a 1).V, .int .i64 (a 1).P00, .int .i64 (a 1).P01, .int .i64 (a 1).P11, .bool (a 1).B, .int .i64 (a 1).M, .int .i64 (a 2).X, .int .i64 (a 2).V, .int .i64 (a 2).P00, .int .i64 (a 2).P01, .int .i64 (a 2).P11, .bool (a 2).B, .int .i64 (a 2).M]) (.agg #[.int .i64 (a 0).X, .int .i64 (a 0).V, .int .i64 (a 0).P00, .int .i64 (a 0).P01, .int .i64 (a 0).P11, .bool (a 0).B, .int .i64 (a 0).M, .int .i64 (a 1).X, .int .i64 (a 1).V, .int .i64 (a 1).P00, .int .i64 (a 1).P01, .int .i64 (a 1).P11, .bool (a 1).B, .int .i64 (a 1).M, .int .i64 (a 2).X, .int .i64 (a 2).V, .int .i64 (a 2).P00, .int .i64 (a 2).P01, .int .i64 (a 2).P11, .bool (a 2).B, .int .i64 (a 2).M])).run Tryz.prog w = .ok true w := by
  have u3 := Tryz.underlying25
  have a3 := Tryz.isAgg25
  have z3 := Tryz.sizeOf25
  have h0 : (Op.equalIn (9997 + 1 + 1) 25 (.agg #[.int .i64 (a 0).X, .int .i64 (a 0).V, .int .i64 (a 0).P00, .int .i64 (a 0).P01, .int .i64 (a 0).P11, .bool (a 0).B, .int .i64 (a 0).M]) (.agg #[.int .i64 (a 0).X, .int .i64 (a 0).V, .int .i64 (a 0).P00, .int .i64 (a 0).P01, .int .i64 (a 0).P11, .bool (a 0).B, .int .i64 (a 0).M])).run Tryz.prog w = .ok true w := run_eqSt 9997 (a 0) w
  have h1 : (Op.equalIn (9997 + 1 + 1) 25 (.agg #[.int .i64 (a 1).X, .int .i64 (a 1).V, .int .i64 (a 1).P00, .int .i64 (a 1).P01, .int .i64 (a 1).P11, .bool (a 1).B, .int .i64 (a 1).M]) (.agg #[.int .i64 (a 1).X, .int .i64 (a 1).V, .int .i64 (a 1).P00, .int .i64 (a 1).P01, .int .i64 (a 1).P11, .bool (a 1).B, .int .i64 (a 1).M])).run Tryz.prog w = .ok true w := run_eqSt 9997 (a 1) w
  have h2 : (Op.equalIn (9997 + 1 + 1) 25 (.agg #[.int .i64 (a 2).X, .int .i64 (a 2).V, .int .i64 (a 2).P00, .int .i64 (a 2).P01, .int .i64 (a 2).P11, .bool (a 2).B, .int .i64 (a 2).M]) (.agg #[.int .i64 (a 2).X, .int .i64 (a 2).V, .int .i64 (a 2).P00, .int .i64 (a 2).P01, .int .i64 (a 2).P11, .bool (a 2).B, .int .i64 (a 2).M])).run Tryz.prog w = .ok true w := run_eqSt 9997 (a 2) w
  rw [show (10000 : Nat) = 9997 + 1 + 1 + 1 from rfl, Op.equalIn]
  simp only [Sem.run_bind, run_underlying Tryz.underlying26, Result.andThen_ok]
  simp only [Std.Legacy.Range.forIn_eq_forIn_range', Std.Legacy.Range.size, Nat.sub_zero, Nat.add_sub_cancel, Nat.div_one, List.range'_succ, List.range'_zero, List.forIn_cons, List.forIn_nil]
  go_simp
theorem run_eqlSt3 {f : Operand → Value} {o : Oper} (x y : Operand) (ho : o.op = .binOp .eql 26 x y 26) {a : Nat → St} (hx : f x = agV (fun j => nstF (a (j / 7)) (j % 7)) 0 21) (hy : f y = agV (fun j => nstF (a (j / 7)) (j % 7)) 0 21) (w : World) : (execOp f o).run Tryz.prog w = .ok (.value (.bool true)) w := by
  have hx' : f x = .agg #[.int .i64 (a 0).X, .int .i64 (a 0).V, .int .i64 (a 0).P00, .int .i64 (a 0).P01, .int .i64 (a 0).P11, .bool (a 0).B, .int .i64 (a 0).M, .int .i64 (a 1).X, .int .i64 (a 1).V, .int .i64 (a 1).P00, .int .i64 (a 1).P01, .int .i64 (a 1).P11, .bool (a 1).B, .int .i64 (a 1).M, .int .i64 (a 2).X, .int .i64 (a 2).V, .int .i64 (a 2).P00, .int .i64 (a 2).P01, .int .i64 (a 2).P11, .bool (a 2).B, .int .i64 (a 2).M] := hx
  have hy' : f y = .agg #[.int .i64 (a 0).X, .int .i64 (a 0).V, .int .i64 (a 0).P00, .int .i64 (a 0).P01, .int .i64 (a 0).P11, .bool (a 0).B, .int .i64 (a 0).M, .int .i64 (a 1).X, .int .i64 (a 1).V, .int .i64 (a 1).P00, .int .i64 (a 1).P01, .int .i64 (a 1).P11, .bool (a 1).B, .int .i64 (a 1).M, .int .i64 (a 2).X, .int .i64 (a 2).V, .int .i64 (a 2).P00, .int .i64 (a 2).P01, .int .i64 (a 2).P11, .bool (a 2).B, .int .i64 (a 2).M] := hy
  clear hx hy
  have h0 := run_eqlSt3A a w
  unfold execOp
  rw [ho]
  dsimp only
  rw [hx', hy']
  go_simp
set_option maxRecDepth 100000 in
theorem run_eql43A (g : Nat → Nat → Int) (w : World) : (Op.equalIn 10000 32 (.agg #[.int .i64 (g 0 0), .int .i64 (g 0 1), .int .i64 (g 0 2), .int .i64 (g 1 0), .int .i64 (g 1 1), .int .i64 (g 1 2), .int .i64 (g 2 0), .int .i64 (g 2 1), .int .i64 (g 2 2), .int .i64 (g 3 0), .int .i64 (g 3 1), .int .i64 (g 3 2)]) (.agg #[.int .i64 (g 0 0), .int .i64 (g 0 1), .int .i64 (g 0 2), .int .i64 (g 1 0), .int .i64 (g 1 1), .int .i64 (g 1 2), .int .i64 (g 2 0), .int .i64 (g 2 1), .int .i64 (g 2 2), .int .i64 (g 3 0), .int .i64 (g 3 1), .int .i64 (g 3 2)])).run Tryz.prog w = .ok true w := by
  have u3 := Tryz.underlying31
  have a3 := Tryz.isAgg31
  have z3 := Tryz.sizeOf31
  have h0 : (Op.equalIn (9997 + 1 + 1) 31 (.agg #[.int .i64 (g 0 0), .int .i64 (g 0 1), .int .i64 (g 0 2)]) (.agg #[.int .i64 (g 0 0), .int .i64 (g 0 1), .int .i64 (g 0 2)])).run Tryz.prog w = .ok true w := run_eqI3 9997 (g 0) w
  have h1 : (Op.equalIn (9997 + 1 + 1) 31 (.agg #[.int .i64 (g 1 0), .int .i64 (g 1 1), .int .i64 (g 1 2)]) (.agg #[.int .i64 (g 1 0), .int .i64 (g 1 1), .int .i64 (g 1 2)])).run Tryz.prog w = .ok true w := run_eqI3 9997 (g 1) w
  have h2 : (Op.equalIn (9997 + 1 + 1) 31 (.agg #[.int .i64 (g 2 0), .int .i64 (g 2 1), .int .i64 (g 2 2)]) (.agg #[.int .i64 (g 2 0), .int .i64 (g 2 1), .int .i64 (g 2 2)])).run Tryz.prog w = .ok true w := run_eqI3 9997 (g 2) w
  have h3 : (Op.equalIn (9997 + 1 + 1) 31 (.agg #[.int .i64 (g 3 0), .int .i64 (g 3 1), .int .i64 (g 3 2)]) (.agg #[.int .i64 (g 3 0), .int .i64 (g 3 1), .int .i64 (g 3 2)])).run Tryz.prog w = .ok true w := run_eqI3 9997 (g 3) w
  rw [show (10000 : Nat) = 9997 + 1 + 1 + 1 from rfl, Op.equalIn]
  simp only [Sem.run_bind, run_underlying Tryz.underlying32, Result.andThen_ok]
  simp only [Std.Legacy.Range.forIn_eq_forIn_range', Std.Legacy.Range.size, Nat.sub_zero, Nat.add_sub_cancel, Nat.div_one, List.range'_succ, List.range'_zero, List.forIn_cons, List.forIn_nil]
  go_simp
theorem run_eql43 {f : Operand → Value} {o : Oper} (x y : Operand) (ho : o.op = .binOp .eql 32 x y 32) {g : Nat → Nat → Int} (hx : f x = agV (fun j => iV (g (j / 3) (j % 3))) 0 12) (hy : f y = agV (fun j => iV (g (j / 3) (j % 3))) 0 12) (w : World) : (execOp f o).run Tryz.prog w = .ok (.value (.bool true)) w := by
  have hx' : f x = .agg #[.int .i64 (g 0 0), .int .i64 (g 0 1), .int .i64 (g 0 2), .int .i64 (g 1 0), .int .i64 (g 1 1), .int .i64 (g 1 2), .int .i64 (g 2 0), .int .i64 (g 2 1), .int .i64 (g 2 2), .int .i64 (g 3 0), .int .i64 (g 3 1), .int .i64 (g 3 2)] := hx
  have hy' : f y = .agg #[.int .i64 (g 0 0), .int .i64 (g 0 1), .int .i64 (g 0 2), .int .i64 (g 1 0), .int .i64 (g 1 1), .int .i64 (g 1 2), .int .i64 (g 2 0), .int .i64 (g 2 1), .int .i64 (g 2 2), .int .i64 (g 3 0), .int .i64 (g 3 1), .int .i64 (g 3 2)] := hy
  clear hx hy
  have h0 := run_eql43A g w
  unfold execOp
  rw [ho]
  dsimp only
  rw [hx', hy']
  go_simp
theorem manySt3 : Many Tryz.prog 26 21 := Many.of _ Tryz.underlying26 rfl (by kernel_rfl)
theorem ndF_axs (n : Nd) (v : Value) : ∀ j, j < 21 → ndF n v (0 + 6 + j) = (fun j => nstF (n.ax (j / 7)) (j % 7)) j := by grind [ndF]
theorem ndF_dis (n : Nd) (v : Value) : ∀ j, j < 12 → ndF n v (0 + 39 + j) = (fun j => iV (n.di (j / 3) (j % 3))) j := by grind [ndF]
theorem ndF_hes (n : Nd) (v : Value) : ∀ j, j < 4 → ndF n v (0 + 51 + j) = (fun j => iV (n.he j)) j := by grind [ndF]
theorem ndF_ags (n : Nd) (v : Value) : ∀ j, j < 12 → ndF n v (0 + 55 + j) = (fun j => iV (n.ag (j / 3) (j % 3))) j := by grind [ndF]
theorem ndF_uss (n : Nd) (v : Value) : ∀ j, j < 3 → ndF n v (0 + 67 + j) = (fun j => iV (n.us j)) j := by grind [ndF]

end Go.Proofs.YthimcecbgpamdaaGreat

namespace Go.Proofs.YthimcecbgpamdaaGreat
open Go.RowKit

theorem enter_samev (x y : Value) (w : World) : (callFunc 56 #[x, y]).run Tryz.prog w = .ok (.enter 56 #[x, y]) w := by go_simp
set_option maxHeartbeats 2000000 in
theorem refSameNode_any (n : Nd) (ao bo : Option Addr) (c c2 : Nat) (w : World) (ha : Sr w ao n.vA.length c (tF (bA n))) (hb : Sr w bo n.vA.length c2 (tF (bA n))) (hl : n.vA.length ≤ 140737488351232) :
    Calls Tryz.prog 30 #[ndV n (.slice ao n.vA.length c), ndV n (.slice bo n.vA.length c2)] w fun e w' => e = .returned (.bool true) ∧ Below w.heap.size w w' := by
  refine enterF Tryz.func30 rfl 80 rfl (of_decide_eq_true rfl) (fun A hs hd hb => ?_)
  have b0 : A.eval (.tmp 0) = ndV n (.slice ao n.vA.length c) := hb 0 _ rfl
  have b1 : A.eval (.tmp 1) = ndV n (.slice bo n.vA.length c2) := hb 1 _ rfl
  clear hb
  refine c_rs (m_start ?_)
  refine m_do rfl (wanted_rd rfl) (fun K hK => ?_)
  refine wp_boxG _ _ _ rfl (ev_out rfl b0) (of_decide_eq_true rfl) ?_
  intro w1 m1 k1 z1
  have sa1 := ha.below k1
  have sb1 := hb.below k1
  refine hK _ _ ?_
  clear hK K
  refine m_do rfl (wanted_rd rfl) (fun K hK => ?_)
  refine wp_boxG _ _ _ rfl (ev_out rfl b1) (of_decide_eq_true rfl) ?_
  intro w2 m2 k2 z2
  have ma2 := m1.below k2
  have sa2 := sa1.below k2
  have sb2 := sb1.below k2
  refine hK _ _ ?_
  clear hK K
  refine m_mv rfl (wanted_rd rfl) (run_assign _ rfl (ev_const _ _) _) ?_
  refine l_nx ?_
  refine c_rs ?_
  refine m_mv rfl (wanted_rd rfl) (fldNd0 rfl (ev_in rfl (by omega)) _) ?_
  refine m_mv rfl (wanted_rd rfl) (run_lod1 (v := .int .i64 n.id) _ _ rfl oneI (ev_in rfl (by omega)) ma2 (by decide) rfl) ?_
  refine m_mv rfl (wanted_rd rfl) (fldNd0 rfl (ev_in rfl (by omega)) _) ?_
  refine m_mv rfl (wanted_rd rfl) (run_lod1 (v := .int .i64 n.id) _ _ rfl oneI (ev_in rfl (by omega)) m2 (by decide) rfl) ?_
  refine m_mv rfl (wanted_rd rfl) (run_eqlI (b := true) _ _ rfl (ev_in rfl (by omega)) (ev_in rfl (by omega)) (decide_eq_true rfl) _) ?_
  refine m_mv rfl (wanted_rd rfl) (run_move _ rfl (ev_in rfl (by omega)) _) ?_
  refine m_mv rfl (wanted_g (j := 5) rfl rfl rfl (ev_in rfl (by omega))) (fldNd1 rfl (ev_in rfl (by omega)) _) ?_
  refine m_mv rfl (wanted_g (j := 5) rfl rfl rfl (ev_in rfl (by omega))) (run_lod1 (v := .int .i64 n.fr) _ _ rfl oneI (ev_in rfl (by omega)) ma2 (by decide) rfl) ?_
  refine m_mv rfl (wanted_g (j := 5) rfl rfl rfl (ev_in rfl (by omega))) (fldNd1 rfl (ev_in rfl (by omega)) _) ?_
  refine m_mv rfl (wanted_g (j := 5) rfl rfl rfl (ev_in rfl (by omega))) (run_lod1 (v := .int .i64 n.fr) _ _ rfl oneI (ev_in rfl (by omega)) m2 (by decide) rfl) ?_
  refine m_mv rfl (wanted_g (j := 5) rfl rfl rfl (ev_in rfl (by omega))) (run_eqlI (b := true) _ _ rfl (ev_in rfl (by omega)) (ev_in rfl (by omega)) (decide_eq_true rfl) _) ?_
  refine m_mv rfl (wanted_rd rfl) (run_pickT' _ _ _ rfl (ev_in rfl (by omega)) (ev_in rfl (by omega)) _) ?_
  refine m_mv rfl (wanted_rd rfl) (run_move _ rfl (ev_in rfl (by omega)) _) ?_
  refine m_mv rfl (wanted_g (j := 12) rfl rfl rfl (ev_in rfl (by omega))) (fldNd2 rfl (ev_in rfl (by omega)) _) ?_
  refine m_mv rfl (wanted_g (j := 12) rfl rfl rfl (ev_in rfl (by omega))) (run_loadPe _ _ rfl manyTn (ev_in rfl (by omega)) ma2 (by decide) (ndF_tn _ _)) ?_
  refine m_mv rfl (wanted_g (j := 12) rfl rfl rfl (ev_in rfl (by omega))) (fldNd2 rfl (ev_in rfl (by omega)) _) ?_
  refine m_mv rfl (wanted_g (j := 12) rfl rfl rfl (ev_in rfl (by omega))) (run_loadPe _ _ rfl manyTn (ev_in rfl (by omega)) m2 (by decide) (ndF_tn _ _)) ?_
  refine m_mv rfl (wanted_g (j := 12) rfl rfl rfl (ev_in rfl (by omega))) (run_eqlTn _ _ rfl (ev_in rfl (by omega)) (ev_in rfl (by omega)) _) ?_
  refine m_mv rfl (wanted_rd rfl) (run_pickT' _ _ _ rfl (ev_in rfl (by omega)) (ev_in rfl (by omega)) _) ?_
  refine m_mv rfl (wanted_rd rfl) (run_move _ rfl (ev_in rfl (by omega)) _) ?_
  refine m_mv rfl (wanted_g (j := 19) rfl rfl rfl (ev_in rfl (by omega))) (fldNd3 rfl (ev_in rfl (by omega)) _) ?_
  refine m_mv rfl (wanted_g (j := 19) rfl rfl rfl (ev_in rfl (by omega))) (run_loadPe _ _ rfl manySt3 (ev_in rfl (by omega)) ma2 (by decide) (ndF_axs _ _)) ?_
  refine m_mv rfl (wanted_g (j := 19) rfl rfl rfl (ev_in rfl (by omega))) (fldNd3 rfl (ev_in rfl (by omega)) _) ?_
  refine m_mv rfl (wanted_g (j := 19) rfl rfl rfl (ev_in rfl (by omega))) (run_loadPe _ _ rfl manySt3 (ev_in rfl (by omega)) m2 (by decide) (ndF_axs _ _)) ?_
  refine m_mv rfl (wanted_g (j := 19) rfl rfl rfl (ev_in rfl (by omega))) (run_eqlSt3 _ _ rfl (ev_in rfl (by omega)) (ev_in rfl (by omega)) _) ?_
  refine m_mv rfl (wanted_rd rfl) (run_pickT' _ _ _ rfl (ev_in rfl (by omega)) (ev_in rfl (by omega)) _) ?_
  refine m_mv rfl (wanted_rd rfl) (run_move _ rfl (ev_in rfl (by omega)) _) ?_
  refine m_mv rfl (wanted_g (j := 26) rfl rfl rfl (ev_in rfl (by omega))) (fldNd4 rfl (ev_in rfl (by omega)) _) ?_
  refine m_mv rfl (wanted_g (j := 26) rfl rfl rfl (ev_in rfl (by omega))) (run_loadPe _ _ rfl manyRl (ev_in rfl (by omega)) ma2 (by decide) (ndF_rl _ _)) ?_
  refine m_mv rfl (wanted_g (j := 26) rfl rfl rfl (ev_in rfl (by omega))) (fldNd4 rfl (ev_in rfl (by omega)) _) ?_
  refine m_mv rfl (wanted_g (j := 26) rfl rfl rfl (ev_in rfl (by omega))) (run_loadPe _ _ rfl manyRl (ev_in rfl (by omega)) m2 (by decide) (ndF_rl _ _)) ?_
  refine m_mv rfl (wanted_g (j := 26) rfl rfl rfl (ev_in rfl (by omega))) (run_eqlRl _ _ rfl (ev_in rfl (by omega)) (ev_in rfl (by omega)) _) ?_
  refine m_mv rfl (wanted_rd rfl) (run_pickT' _ _ _ rfl (ev_in rfl (by omega)) (ev_in rfl (by omega)) _) ?_
  refine m_mv rfl (wanted_rd rfl) (run_move _ rfl (ev_in rfl (by omega)) _) ?_
  refine m_mv rfl (wanted_g (j := 33) rfl rfl rfl (ev_in rfl (by omega))) (fldNd5 rfl (ev_in rfl (by omega)) _) ?_
  refine m_mv rfl (wanted_g (j := 33) rfl rfl rfl (ev_in rfl (by omega))) (run_loadPe _ _ rfl many43 (ev_in rfl (by omega)) ma2 (by decide) (ndF_dis _ _)) ?_
  refine m_mv rfl (wanted_g (j := 33) rfl rfl rfl (ev_in rfl (by omega))) (fldNd5 rfl (ev_in rfl (by omega)) _) ?_
  refine m_mv rfl (wanted_g (j := 33) rfl rfl rfl (ev_in rfl (by omega))) (run_loadPe _ _ rfl many43 (ev_in rfl (by omega)) m2 (by decide) (ndF_dis _ _)) ?_
  refine m_mv rfl (wanted_g (j := 33) rfl rfl rfl (ev_in rfl (by omega))) (run_eql43 _ _ rfl (ev_in rfl (by omega)) (ev_in rfl (by omega)) _) ?_
  refine m_mv rfl (wanted_rd rfl) (run_pickT' _ _ _ rfl (ev_in rfl (by omega)) (ev_in rfl (by omega)) _) ?_
  refine m_mv rfl (wanted_rd rfl) (run_move _ rfl (ev_in rfl (by omega)) _) ?_
  refine m_mv rfl (wanted_g (j := 40) rfl rfl rfl (ev_in rfl (by omega))) (fldNd6 rfl (ev_in rfl (by omega)) _) ?_
  refine m_mv rfl (wanted_g (j := 40) rfl rfl rfl (ev_in rfl (by omega))) (run_loadPe _ _ rfl many4 (ev_in rfl (by omega)) ma2 (by decide) (ndF_hes _ _)) ?_
  refine m_mv rfl (wanted_g (j := 40) rfl rfl rfl (ev_in rfl (by omega))) (fldNd6 rfl (ev_in rfl (by omega)) _) ?_
  refine m_mv rfl (wanted_g (j := 40) rfl rfl rfl (ev_in rfl (by omega))) (run_loadPe _ _ rfl many4 (ev_in rfl (by omega)) m2 (by decide) (ndF_hes _ _)) ?_
  refine m_mv rfl (wanted_g (j := 40) rfl rfl rfl (ev_in rfl (by omega))) (run_eqlI4 _ _ rfl (ev_in rfl (by omega)) (ev_in rfl (by omega)) _) ?_
  refine m_mv rfl (wanted_rd rfl) (run_pickT' _ _ _ rfl (ev_in rfl (by omega)) (ev_in rfl (by omega)) _) ?_
  refine m_mv rfl (wanted_rd rfl) (run_move _ rfl (ev_in rfl (by omega)) _) ?_
  refine m_mv rfl (wanted_g (j := 47) rfl rfl rfl (ev_in rfl (by omega))) (fldNd7 rfl (ev_in rfl (by omega)) _) ?_
  refine m_mv rfl (wanted_g (j := 47) rfl rfl rfl (ev_in rfl (by omega))) (run_loadPe _ _ rfl many43 (ev_in rfl (by omega)) ma2 (by decide) (ndF_ags _ _)) ?_
  refine m_mv rfl (wanted_g (j := 47) rfl rfl rfl (ev_in rfl (by omega))) (fldNd7 rfl (ev_in rfl (by omega)) _) ?_
  refine m_mv rfl (wanted_g (j := 47) rfl rfl rfl (ev_in rfl (by omega))) (run_loadPe _ _ rfl many43 (ev_in rfl (by omega)) m2 (by decide) (ndF_ags _ _)) ?_
  refine m_mv rfl (wanted_g (j := 47) rfl rfl rfl (ev_in rfl (by omega))) (run_eql43 _ _ rfl (ev_in rfl (by omega)) (ev_in rfl (by omega)) _) ?_
  refine m_mv rfl (wanted_rd rfl) (run_pickT' _ _ _ rfl (ev_in rfl (by omega)) (ev_in rfl (by omega)) _) ?_
  refine m_mv rfl (wanted_rd rfl) (run_move _ rfl (ev_in rfl (by omega)) _) ?_
  refine m_mv rfl (wanted_g (j := 54) rfl rfl rfl (ev_in rfl (by omega))) (fldNd8 rfl (ev_in rfl (by omega)) _) ?_
  refine m_mv rfl (wanted_g (j := 54) rfl rfl rfl (ev_in rfl (by omega))) (run_loadPe _ _ rfl many3 (ev_in rfl (by omega)) ma2 (by decide) (ndF_uss _ _)) ?_
  refine m_mv rfl (wanted_g (j := 54) rfl rfl rfl (ev_in rfl (by omega))) (fldNd8 rfl (ev_in rfl (by omega)) _) ?_
  refine m_mv rfl (wanted_g (j := 54) rfl rfl rfl (ev_in rfl (by omega))) (run_loadPe _ _ rfl many3 (ev_in rfl (by omega)) m2 (by decide) (ndF_uss _ _)) ?_
  refine m_mv rfl (wanted_g (j := 54) rfl rfl rfl (ev_in rfl (by omega))) (run_eqlI3 _ _ rfl (ev_in rfl (by omega)) (ev_in rfl (by omega)) _) ?_
  refine m_mv rfl (wanted_rd rfl) (run_pickT' _ _ _ rfl (ev_in rfl (by omega)) (ev_in rfl (by omega)) _) ?_
  refine m_mv rfl (wanted_rd rfl) (run_move _ rfl (ev_in rfl (by omega)) _) ?_
  refine m_mv rfl (wanted_g (j := 61) rfl rfl rfl (ev_in rfl (by omega))) (fldNd9 rfl (ev_in rfl (by omega)) _) ?_
  refine m_mv rfl (wanted_g (j := 61) rfl rfl rfl (ev_in rfl (by omega))) (run_lod1 (v := .int .i64 n.dg) _ _ rfl oneI (ev_in rfl (by omega)) ma2 (by decide) rfl) ?_
  refine m_mv rfl (wanted_g (j := 61) rfl rfl rfl (ev_in rfl (by omega))) (fldNd9 rfl (ev_in rfl (by omega)) _) ?_
  refine m_mv rfl (wanted_g (j := 61) rfl rfl rfl (ev_in rfl (by omega))) (run_lod1 (v := .int .i64 n.dg) _ _ rfl oneI (ev_in rfl (by omega)) m2 (by decide) rfl) ?_
  refine m_mv rfl (wanted_g (j := 61) rfl rfl rfl (ev_in rfl (by omega))) (run_eqlI (b := true) _ _ rfl (ev_in rfl (by omega)) (ev_in rfl (by omega)) (decide_eq_true rfl) _) ?_
  refine m_mv rfl (wanted_rd rfl) (run_pickT' _ _ _ rfl (ev_in rfl (by omega)) (ev_in rfl (by omega)) _) ?_
  refine m_mv rfl (wanted_rd rfl) (run_move _ rfl (ev_in rfl (by omega)) _) ?_
  refine m_mv rfl (wanted_g (j := 68) rfl rfl rfl (ev_in rfl (by omega))) (fldNd10 rfl (ev_in rfl (by omega)) _) ?_
  refine m_mv rfl (wanted_g (j := 68) rfl rfl rfl (ev_in rfl (by omega))) (run_loadPe _ _ rfl manyVd (ev_in rfl (by omega)) ma2 (by decide) (ndF_vd _ _)) ?_
  refine m_mv rfl (wanted_g (j := 68) rfl rfl rfl (ev_in rfl (by omega))) (fldNd10 rfl (ev_in rfl (by omega)) _) ?_
  refine m_mv rfl (wanted_g (j := 68) rfl rfl rfl (ev_in rfl (by omega))) (run_loadPe _ _ rfl manyVd (ev_in rfl (by omega)) m2 (by decide) (ndF_vd _ _)) ?_
  refine m_do rfl (wanted_g (j := 68) rfl rfl rfl (ev_in rfl (by omega))) (fun K hK => ?_)
  refine wp_call2 _ 56 _ _ _ rfl (ev_in rfl (by omega)) (ev_in rfl (by omega)) (enter_samev _ _ _) (sameVerdict_ok n.vX n.vS ao bo n.vA.length c c2 (bA n) (bA n) _ (by have := hl; omega) sa2.rd sb2.rd (fun _ _ => rfl)) ?_
  rintro e w3 ⟨rfl, k3⟩
  refine ⟨_, rfl, ?_⟩
  refine hK _ _ ?_
  clear hK K
  refine m_mv rfl (wanted_rd rfl) (run_pickT' _ _ _ rfl (ev_in rfl (by omega)) (ev_in rfl (by omega)) _) ?_
  refine m_mv rfl (wanted_rd rfl) (run_assign _ rfl (ev_in rfl (by omega)) _) ?_
  refine l_nx ?_
  refine c_ret (ret_of ((defL _ _).trans hd) (res_t rfl (ev_in rfl (by omega))) ⟨rfl, (k1.trans (k2.mono (by omega))).trans (k3.mono (by omega))⟩)

end Go.Proofs.YthimcecbgpamdaaGreat

namespace Go.Proofs.YthimcecbgpamdaaGreat
open Go.RowKit

theorem clG_atR (fr : Int) (D : Nat → Nd × Ad) {i j : Nat} (hj : j < 74) : clG fr D (0 + 1 + i * 74 + j) = ndF (D i).1 (slV (D i).2 (D i).1.vA.length) j := by
  unfold clG
  rw [show 0 + 1 + i * 74 + j = 1 + i * 74 + j by omega]
  exact clF_nd _ _ _ hj
theorem agRd_ofR {w : World} {B : Nat} {d : Nd × Ad} (h : (agJ B d).p w) : AgRd w d.1 d.2.1 d.2.2 := by
  obtain ⟨a3, c3, e, hs3, _⟩ := owns_sr h
  cases e
  exact hs3
theorem begN_vA (id : Int) (t : Tn) : (begN id t).vA.length = 0 := by unfold begN; split <;> rfl
theorem refBeginCluster_ok : BgC 9 := by
  intro t w ht
  refine enterF Tryz.func9 rfl 19 rfl (of_decide_eq_true rfl) (fun A hs hd hb => ?_)
  have b0 : A.eval (.tmp 0) = agV (ntnF t) 0 4 := hb 0 _ rfl
  clear hb
  have H := Cx.start w
  refine c_rs (m_start ?_)
  refine q_box H ?_
  intro w1 H z1
  refine q_al H ?_
  intro w2 H z2
  refine l_nx ?_
  refine c_rs ?_
  refine q_al H ?_
  intro w3 H z3
  refine l_nx ?_
  refine c_nx ?_
  refine c_rs ?_
  repeat first | refine qa ?_ | refine l_nx ?_
  refine c_block ?_
  refine c_loop (fun r A W => ∃ (i : Nat) (D : Nat → Nd × Ad), i ≤ 4 ∧ 4 - i ≤ r ∧ A.tmps.size = 19 ∧ A.defers = [] ∧ A.eval (.tmp 1) = .pointer (some ⟨w.heap.size, 0, none⟩) ∧ A.eval (.tmp 2) = .pointer (some ⟨w1.heap.size, 0, none⟩) ∧ A.eval (.tmp 3) = .pointer (some ⟨w2.heap.size, 0, none⟩) ∧ A.eval (.tmp 5) = .int .i64 (i : Int) ∧ (∀ j, j < i → (D j).1 = begN (j : Nat) t) ∧
      Cx w W [agI w.heap.size D, vhI 40 w2.heap.size 297 297 (clG 0 D), vhI 40 w1.heap.size 297 297 (clF 0 (fun _ => zeroN) (fun _ => slV (none, 0) 0)), vhI 23 w.heap.size 4 4 (ntnF t)]) 4
    ⟨0, fun _ => (zeroN, (none, 0)), Nat.zero_le _, by omega, (szL _ _).trans hs, (defL _ _).trans hd, Qv, Qv, Qv, Qv, fun j h => absurd h (Nat.not_lt_zero j), H.add (Below.refl _ _) (agI w.heap.size (fun _ => (zeroN, (none, 0)))) (fun _ _ => World.ownsRow_nil _ _ _ _) (fun j ⟨_, _, e⟩ => absurd e (fun e => nomatch e))⟩ (fun r B W hI => ?_)
  clear b0 hs hd H
  obtain ⟨i, D, hi, hr, hs, hd, b1, b2, b3, b5, hD, H⟩ := hI
  refine c_rs (m_start ?_)
  repeat first | refine qa ?_ | refine l_nx ?_ | refine c_rs ?_ | refine c_nx ?_
  refine q_if (fun h => ?_) (fun h => ?_)
  · have hin : i < 4 := by have := of_decide_eq_true h; omega
    refine c_fin ?_
    refine c_nx (c_block ?_)
    refine c_rs ?_
    repeat first | refine qa ?_ | refine l_nx ?_ | refine c_region ?_
    have hsz := H.size
    refine q_c2 (refBeginNode_ok (i : Int) t W (by unfold R64; omega) ht) ?_
    rintro e w4 ⟨a', c', rfl, g1, k4⟩
    refine ⟨_, rfl, ?_⟩
    replace H := H.add k4 (agJ w.heap.size (begN (i : Nat) t, (a', c'))) (rw_base g1 hsz) (fun j e => (g1.lt j e).1)
    iterate 5 refine qa ?_
    refine q_sp H.a2 (fun j hj => Eq.trans (by rw [show 0 + 1 + i * 74 = 1 + i * 74 by omega]; rfl) (clG_set 0 D i (begN (i : Nat) t, (a', c')) j hj)) (ndF_one _ _ _ _) ?_
    intro w5 H z5
    refine l_finB ?_
    refine c_region ?_
    repeat refine qa ?_
    exact l_round ⟨4 - (i + 1), by omega, i + 1, _, by omega, by omega, (szL _ _).trans hs, (defL _ _).trans hd, Qv, Qv, Qv, Eq.trans Qv (by rw [Int.natCast_add]; rfl), fun j hj => (by
      by_cases e : j = i
      · rw [e, upM_same]
      · rw [upM_other _ _ e]; exact hD j (by omega)), four_set (g := agJ w.heap.size) i H⟩
  · obtain rfl : i = 4 := by have := of_decide_eq_false h; omega
    refine c_exit (x_out ?_)
    refine c_rs ?_
    refine qa ?_
    refine q_sp H.a2 stP_whole (clG_one _ _) ?_
    intro w5 H z5
    refine l_nx ?_
    exact c_ret (ret_of ((defL _ _).trans hd) (res_c rfl Qv ManyK.out H.v2 (Nat.le_refl _)) ⟨D, rfl, hD, H.sub (List.Sublist.cons_cons _ (List.nil_sublist _))⟩)
set_option maxHeartbeats 1000000 in
theorem refSameCluster_any (fr : Int) (D E : Nat → Nd × Ad) (w : World) (he : ∀ i, i < 4 → (E i).1 = (D i).1) (hD : ∀ i, i < 4 → AgRd w (D i).1 (D i).2.1 (D i).2.2) (hE : ∀ i, i < 4 → AgRd w (E i).1 (E i).2.1 (E i).2.2) (hl : ∀ i, i < 4 → (D i).1.vA.length ≤ 140737488351232) :
    Calls Tryz.prog 10 #[agV (clG fr D) 0 297, agV (clG fr E) 0 297] w fun e w' => e = .returned (.bool true) ∧ Below w.heap.size w w' := by
  refine enterF Tryz.func10 rfl 25 rfl (of_decide_eq_true rfl) (fun A hs hd hb => ?_)
  have b0 : A.eval (.tmp 0) = agV (clG fr D) 0 297 := hb 0 _ rfl
  have b1 : A.eval (.tmp 1) = agV (clG fr E) 0 297 := hb 1 _ rfl
  clear hb
  have H := Cx.start w
  refine c_rs (m_start ?_)
  refine q_box H ?_
  clear H
  intro w1 H z1
  refine q_box H ?_
  clear H
  intro w2 H z2
  refine qa ?_
  refine l_nx ?_
  refine c_nx ?_
  refine c_rs ?_
  repeat first | refine qa ?_ | refine l_nx ?_
  refine c_block ?_
  refine c_loop (fun r A W => ∃ i : Nat, i ≤ 4 ∧ 4 - i ≤ r ∧ A.tmps.size = 25 ∧ A.defers = [] ∧ A.eval (.tmp 2) = .pointer (some ⟨w.heap.size, 0, none⟩) ∧ A.eval (.tmp 3) = .pointer (some ⟨w1.heap.size, 0, none⟩) ∧ A.eval (.tmp 6) = .int .i64 (i : Int) ∧ Cx w W [vhI 40 w1.heap.size 297 297 (clG fr E), vhI 40 w.heap.size 297 297 (clG fr D)]) 4
    ⟨0, Nat.zero_le _, by omega, (szL _ _).trans hs, (defL _ _).trans hd, Qv, Qv, Qv, H⟩ (fun r B W hI => ?_)
  clear b0 b1 hs hd H
  obtain ⟨i, hi, hr, hs, hd, b2, b3, b6, H⟩ := hI
  refine c_rs (m_start ?_)
  repeat first | refine qa ?_ | refine l_nx ?_ | refine c_nx ?_
  refine q_if (fun h => ?_) (fun h => ?_)
  · have i4 : i < 4 := by have := of_decide_eq_true h; omega
    refine c_fin ?_
    refine c_nx (c_block ?_)
    refine c_rs ?_
    iterate 2 refine qa ?_
    refine l_nx ?_
    refine c_nx ?_
    replace H := H.drew
    have hS := H.its
    refine c_rj (S := Its [vhI 40 w1.heap.size 297 297 (clG fr E), vhI 40 w.heap.size 297 297 (clG fr D)]) (.mv 0 (.mv 1 (.mv 2 (.rd 3 (.mv 4 (.mv 5 (.mv 6 (.rd 7 (.go 8 (.mv 9 .fin)))))))))) [] (by kernel_rfl) (by kernel_rfl) ?_
    iterate 3 refine qj ?_
    refine j_rd rfl rfl (fun _ _ _ h => h) (wanted_rd rfl) hS (fun _ H => Eq.trans (run_loadP _ _ rfl ManyK.out Qv H.v1 (by omega)) (by rw [agV_cong (fun j hj => clG_atR fr D (i := i) hj)])) ?_
    iterate 3 refine qj ?_
    refine j_rd rfl rfl (fun _ _ _ h => h) (wanted_rd rfl) hS (fun _ H => Eq.trans (run_loadP _ _ rfl ManyK.out Qv H.v0 (by omega)) (by rw [agV_cong (fun j hj => clG_atR fr E (i := i) hj), he i i4])) ?_
    refine j_do rfl rfl (wanted_rd rfl) (fun K hK => ?_)
    refine wp_call2 _ 30 _ _ _ rfl Qv Qv (EntK.out _ _) (refSameNode_any (D i).1 (D i).2.1 (E i).2.1 (D i).2.2 (E i).2.2 _ ((hD i i4).below H.bel) (by have := (hE i i4).below H.bel; unfold AgRd at this; rw [he i i4] at this; exact this) (hl i i4)) ?_
    rintro e w4 ⟨rfl, k4⟩
    replace H := H.call k4
    refine ⟨_, rfl, hK _ _ (fun _ _ => H.its) ?_⟩
    clear hK K
    refine qj ?_
    refine j_nx ?_
    refine q_no rfl (c_finB ?_)
    refine c_region ?_
    repeat refine qa ?_
    exact l_round ⟨4 - (i + 1), by omega, i + 1, by omega, by omega, (szL _ _).trans hs, (defL _ _).trans hd, Qv, Qv, Eq.trans Qv (by rw [Int.natCast_add]; rfl), H⟩
  · refine c_exit (x_out ?_)
    refine c_rs ?_
    refine qa ?_
    refine qg (run_lod1 _ _ rfl OneK.out Qv H.v1 (by omega) (show _ = Value.int .i64 fr from rfl)) ?_
    refine qa ?_
    refine qg (run_lod1 _ _ rfl OneK.out Qv H.v0 (by omega) (show _ = Value.int .i64 fr from rfl)) ?_
    refine qg (run_eqlI (b := true) _ _ rfl Qv Qv (decide_eq_true rfl) _) ?_
    refine qa ?_
    refine l_nx ?_
    exact c_ret (ret_of ((defL _ _).trans hd) (res_t rfl Qv) ⟨rfl, H.bel⟩)

end Go.Proofs.YthimcecbgpamdaaGreat

namespace Go.Proofs.YthimcecbgpamdaaGreat
open Go.RowKit

instance iRefCl2_1 : ManyK Tryz.prog 81 4 := ⟨Many.of _ Tryz.underlying81 rfl (by kernel_rfl)⟩
instance iRefCl2_2 : ArrK Tryz.prog 81 4 80 := ⟨Tryz.underlying81⟩
instance iRefCl2_3 : OneK Tryz.prog 80 := ⟨⟨fun w => by go_simp, fun w => by go_simp⟩⟩
instance iRefCl2_4 : SizK Tryz.prog 80 1 := ⟨fun w => by go_simp⟩
/-- A message's row and the message beside it: one thing. -/
theorem om_made {w0 w w' : World} {c : Lm} {l : List It} (H : Cx w0 w (ownI w0.heap.size 3 1 (lmV c) c.m.L.length (rowV (iF (gL c.m.L)) c.m.L.length) :: l)) (k : Below w.heap.size w w') (m : Vh 67 w' w.heap.size 4 4 (lmF c)) : Cx w0 w' (omI w0.heap.size (.slice (some ⟨w.heap.size, 0, none⟩) 1 1) [c] :: l) := by
  have hM : World.ownsRow _ _ _ _ _ _ _ := H.o0
  refine H.a0.put (y := (omI w0.heap.size (.slice (some ⟨w.heap.size, 0, none⟩) 1 1) [c])) ⟨k.os, k.tape, k.output, k.size, fun j h5 _ => k.block j h5, ⟨own_oneM m H.size, fun d hd => ?_⟩, fun j hj => ?_⟩
  · simp only [List.mem_cons, List.not_mem_nil, or_false] at hd
    subst hd
    exact rw_below hM k
  · rcases hj with e | ⟨d, hd, e⟩
    · cases e
      exact Or.inr (Nat.le_refl _)
    · simp only [List.mem_cons, List.not_mem_nil, or_false] at hd
      subst hd
      exact Or.inl e
theorem run_pickN {P : Program} {f : Operand → Value} {o : Oper} (c x y : Operand) (ho : o.op = .pick c x y) {v : Value} (hc : f c = .bool false) (hy : f y = v) (w : World) : (execOp f o).run P w = .ok (.value v) w := run_pickF c x y ho hc hy w
set_option maxRecDepth 10000 in
set_option maxHeartbeats 4000000 in
theorem refInbox_any (x : Ip) (told : Nat → Ms) (ta : Nat → Ad) (po : Nat → Option Addr) (lo : Option Addr) (lc : Nat) (LL : List Lj) (wo ph : Nat) (w : World) (hx : x.ly = LL.map Lj.y) (hj : JRd w lo LL) (hl : LL.length ≤ 400)
    (ht : ∀ j : Nat, j < 4 → j ≠ wo → (j : Int) ≠ x.bad → ∃ b, po j = some ⟨b, 0, none⟩ ∧ Vh 67 w b 4 4 (msF (told j).K (told j).F (told j).R (slV (ta j) (told j).L.length)) ∧ MsOK (told j) ∧ (told j).L.length ≤ (ta j).2 ∧ Sr w (ta j).1 (told j).L.length (ta j).2 (iF (gL (told j).L))) :
    Calls Tryz.prog 22 #[.int .i64 (wo : Int), agV (fun j => .pointer (po j)) 0 4, agV (ipF x.rd x.bad (.slice lo LL.length lc)) 0 14, .int .i64 (ph : Int)] w fun e w' => ∃ mo mc M, e = .returned (.slice mo M.length mc) ∧ M.map Lm.m = bxM x told wo ph 4 ∧ OwnM w' w.heap.size (.slice mo M.length mc) M ∧ Below w.heap.size w w' := by
  refine enterF Tryz.func22 rfl 89 rfl (of_decide_eq_true rfl) (fun A hs hd hb => ?_)
  have b0 : A.eval (.tmp 0) = .int .i64 (wo : Int) := hb 0 _ rfl
  have b1 : A.eval (.tmp 1) = agV (fun j => .pointer (po j)) 0 4 := hb 1 _ rfl
  have b2 : A.eval (.tmp 2) = agV (ipF x.rd x.bad (.slice lo LL.length lc)) 0 14 := hb 2 _ rfl
  have b3 : A.eval (.tmp 3) = .int .i64 (ph : Int) := hb 3 _ rfl
  clear hb
  have H := Cx.start w
  refine c_rs (m_start ?_)
  refine q_box H ?_
  clear H
  intro w1 H z1
  refine q_box H ?_
  clear H
  intro w2 H z2
  refine qa ?_
  refine l_nx ?_
  refine c_rs ?_
  refine qa ?_
  refine l_nx ?_
  refine c_nx ?_
  refine c_rs ?_
  refine qa ?_
  refine l_nx ?_
  refine c_block ?_
  refine c_loop (fun r A W => ∃ (i : Nat) (u : Value) (M : List Lm), i ≤ 4 ∧ 4 - i ≤ r ∧ A.tmps.size = 89 ∧ A.defers = [] ∧ A.eval (.tmp 0) = .int .i64 (wo : Int) ∧ A.eval (.tmp 3) = .int .i64 (ph : Int) ∧ A.eval (.tmp 5) = .pointer (some ⟨w.heap.size, 0, none⟩) ∧ A.eval (.tmp 6) = .pointer (some ⟨w1.heap.size, 0, none⟩) ∧ A.eval (.tmp 9) = u ∧ A.eval (.tmp 10) = .int .i64 (i : Int) ∧ M.map Lm.m = bxM x told wo ph i ∧ Cx w W [omI w.heap.size u M, vhI 43 w1.heap.size 14 14 (ipF x.rd x.bad (.slice lo LL.length lc)), vhI 81 w.heap.size 4 4 (fun j => .pointer (po j))]) 4
    ⟨0, _, [], Nat.zero_le _, by omega, (szL _ _).trans hs, (defL _ _).trans hd, Qv, Qv, Qv, Qv, Qv, Qv, rfl, H.add (Below.refl _ _) (omI _ _ _) (OwnM.nil _ _) (fun j e => om_up (OwnM.nil w2 w2.heap.size) j e)⟩ (fun r B W hI => ?_)
  clear b0 b1 b2 b3 hs hd H
  obtain ⟨i, u, M, hi, hr, hs, hd, b0, b3, b5, b6, b9, b10, hM, H⟩ := hI
  have hMl : M.length ≤ 400 * i := by
    have h1 := congrArg List.length hM
    rw [List.length_map] at h1
    rw [h1]
    exact bxM_len (by rw [hx, List.length_map]; exact hl) told wo ph i
  refine c_nx ?_
  refine c_rs (m_start ?_)
  iterate 2 refine qa ?_
  refine l_nx ?_
  refine q_if (fun h => ?_) (fun h => ?_)
  · have hin : i < 4 := by have := of_decide_eq_true h; omega
    refine c_fin ?_
    refine c_nx (c_block ?_)
    refine c_nx ?_
    refine c_rs ?_
    iterate 3 refine qa ?_
    refine l_nx ?_
    refine q_if (fun h1 => ?_) (fun h1 => ?_)
    · have e1 : i = wo := by have := of_decide_eq_true h1; omega
      refine c_exit (x_in ?_)
      refine c_region ?_
      repeat refine qa ?_
      exact l_round ⟨4 - (i + 1), by omega, i + 1, _, M, by omega, by omega, (szL _ _).trans hs, (defL _ _).trans hd, Qv, Qv, Qv, Qv, Qv, Eq.trans Qv (by rw [Int.natCast_add]; rfl), by rw [hM]; show _ = bxM x told wo ph i ++ _; rw [if_pos e1, List.append_nil], H⟩
    · have e1 : i ≠ wo := by have := of_decide_eq_false h1; omega
      refine c_fin ?_
      refine c_nx ?_
      refine c_rs ?_
      iterate 4 refine qa ?_
      refine l_nx ?_
      refine q_if (fun h2 => ?_) (fun h2 => ?_)
      · have e2 : (i : Int) ≠ x.bad := of_decide_eq_true h2
        obtain ⟨mb, hpt, G0, t1, t2, t3⟩ := ht i hin e1 e2
        refine c_rs ?_
        refine qa ?_
        refine qg (run_ixG _ _ _ _ rfl ArrK.out SizK.out Qv Qv rfl hin _) ?_
        refine qg (run_lod1 (v := .pointer (some ⟨mb, 0, none⟩)) _ _ rfl OneK.out Qv H.v2 (by omega) (by show Value.pointer (po (0 + i * 1)) = _; rw [show 0 + i * 1 = i by omega, hpt])) ?_
        iterate 2 refine qa ?_
        have hn := t1.n
        refine q_c1 (show Calls _ _ #[agV (msF (told i).K (told i).F (told i).R (slV (ta i) (told i).L.length)) 0 4] _ _ from refEncode_ok (told i).K (told i).F (told i).R (ta i).1 (told i).L.length (ta i).2 (gL (told i).L) _ t1.K t1.F t1.R t1.L (by omega) t2 (t3.below H.bel)) ?_
        rintro e w4 ⟨v4, rfl, o4, k4⟩
        obtain ⟨a4, c4, rfl, hc4⟩ := rw_slice o4
        refine ⟨_, rfl, ?_⟩
        have hsz := H.size
        replace H := H.add k4 (ownI _ _ _ _ _ _) o4 (fun j e => (o4.lt j e).1)
        repeat refine qa ?_
        refine l_nx ?_
        refine c_nx ?_
        refine c_rs ?_
        iterate 2 refine qa ?_
        refine l_nx ?_
        refine q_if (fun h3 => ?_) (fun h3 => ?_)
        · have hE : wrongM (told i).K (told i).F (told i).R (told i).L.length = 0 := of_decide_eq_true h3
          have eL : enL (told i).K (told i).F (told i).R (told i).L.length = 12 + 8 * (told i).L.length := by unfold enL; rw [if_pos hE]
          have hrow : World.ownsRow _ _ _ _ _ _ _ := H.o0
          rw [eL] at hrow hc4
          obtain ⟨x1, x2, ex, s4, _⟩ := owns_sr hrow
          cases ex
          refine c_rs ?_
          refine qa ?_
          refine q_c1 (show Calls _ _ #[.slice a4 (enL (told i).K (told i).F (told i).R (told i).L.length) c4] _ _ from (by rw [eL]; exact dc_at refDecode_ok hE t1.L a4 c4 w4 hc4 s4)) ?_
          rintro e w5 ⟨bo, bc, rfl, o5, k5⟩
          refine ⟨.tuple #[agV (msF (told i).K (told i).F (told i).R (.slice bo (told i).L.length bc)) 0 4, .int .i64 0], rfl, ?_⟩
          have hsz4 := k4.size
          replace H := H.tl.add k5 (ownI _ _ _ _ _ _) (rw_base o5 (show w.heap.size ≤ _ by omega)) (fun j e => (o5.lt j e).1)
          iterate 3 refine qa ?_
          refine q_al H ?_
          clear H
          intro w6 H z6
          refine q_sp H.a0 stP_whole (msF_one _ _ _ _ _ _) ?_
          clear H
          intro w7 H z7
          refine qa ?_
          refine l_nx ?_
          refine c_region ?_
          iterate 2 refine qa ?_
          refine m_do rfl (wanted_rd rfl) (fun K hK => ?_)
          refine wp_oneMs _ _ rfl (c := ⟨told i, bo, bc⟩) Qv ?_
          intro w8 m8 k8 z8
          refine hK _ _ ?_
          clear hK K
          replace H := (om_made (c := ⟨told i, bo, bc⟩) H.tl k8 m8).perm (List.Perm.swap _ _ _)
          refine q_apM H (by show M.length + 1 ≤ _; omega) ?_
          clear H
          intro u9 w9 H
          refine qa ?_
          refine l_nx ?_
          refine c_exit (x_in ?_)
          refine c_region ?_
          repeat refine qa ?_
          exact l_round ⟨4 - (i + 1), by omega, i + 1, _, M ++ [⟨told i, bo, bc⟩], by omega, by omega, (szL _ _).trans hs, (defL _ _).trans hd, Qv, Qv, Qv, Qv, Qv, Eq.trans Qv (by rw [Int.natCast_add]; rfl), by rw [List.map_append, hM]; show _ = bxM x told wo ph i ++ _; rw [if_neg e1, if_neg e2]; unfold wrM; rw [if_pos hE]; rfl, H⟩
        · have hE : wrongM (told i).K (told i).F (told i).R (told i).L.length ≠ 0 := of_decide_eq_false h3
          refine c_fin ?_
          refine c_exit (x_in ?_)
          refine c_region ?_
          repeat refine qa ?_
          exact l_round ⟨4 - (i + 1), by omega, i + 1, _, M, by omega, by omega, (szL _ _).trans hs, (defL _ _).trans hd, Qv, Qv, Qv, Qv, Qv, Eq.trans Qv (by rw [Int.natCast_add]; rfl), by rw [hM]; show _ = bxM x told wo ph i ++ _; rw [if_neg e1, if_neg e2]; unfold wrM; rw [if_neg hE, List.append_nil], H.tl⟩
      · have e2 : (i : Int) = x.bad := by simpa using h2
        refine c_fin ?_
        refine c_rs ?_
        iterate 4 refine qa ?_
        refine l_nx ?_
        refine c_block ?_
        refine c_loop (fun r A W => ∃ (k : Nat) (u : Value) (M2 : List Lm), k ≤ LL.length ∧ LL.length - k ≤ r ∧ A.tmps.size = 89 ∧ A.defers = [] ∧ A.eval (.tmp 0) = .int .i64 (wo : Int) ∧ A.eval (.tmp 3) = .int .i64 (ph : Int) ∧ A.eval (.tmp 5) = .pointer (some ⟨w.heap.size, 0, none⟩) ∧ A.eval (.tmp 6) = .pointer (some ⟨w1.heap.size, 0, none⟩) ∧ A.eval (.tmp 9) = u ∧ A.eval (.tmp 10) = .int .i64 (i : Int) ∧ A.eval (.tmp 51) = .slice lo LL.length lc ∧ A.eval (.tmp 52) = .int .i64 (LL.length : Int) ∧ A.eval (.tmp 53) = .int .i64 (k : Int) ∧ M2.map Lm.m = bxM x told wo ph i ++ liM x.bad wo ph ((LL.map Lj.y).take k) ∧ Cx w W [omI w.heap.size u M2, vhI 43 w1.heap.size 14 14 (ipF x.rd x.bad (.slice lo LL.length lc)), vhI 81 w.heap.size 4 4 (fun j => .pointer (po j))]) LL.length
          ⟨0, _, M, Nat.zero_le _, by omega, (szL _ _).trans hs, (defL _ _).trans hd, Qv, Qv, Qv, Qv, Qv, Qv, Qv, Qv, Qv, by rw [hM]; exact (List.append_nil _).symm, H⟩ (fun r B W hI => ?_)
        clear b0 b3 b5 b6 b9 b10 hs hd H
        obtain ⟨k, u, M2, hk, hr2, hs, hd, b0, b3, b5, b6, b9, b10, b51, b52, b53, hM2, H⟩ := hI
        have hM2l : M2.length ≤ 2000 := by
          have h3 := congrArg List.length hM2
          rw [List.length_append, List.length_map, ← hM, List.length_map] at h3
          have h4 := liM_len x.bad wo ph ((LL.map Lj.y).take k)
          rw [List.length_take, List.length_map] at h4
          omega
        refine c_rs (m_start ?_)
        refine qa ?_
        refine l_nx ?_
        refine c_nx ?_
        refine q_if (fun h => ?_) (fun h => ?_)
        · have hkn : k < LL.length := by have := of_decide_eq_true h; omega
          have hc := List.getElem?_eq_getElem hkn
          obtain ⟨cc, ec⟩ : ∃ cc, cc = LL[k] := ⟨_, rfl⟩
          rw [← ec] at hc
          have hy : (LL.map Lj.y)[k]? = some cc.y := by rw [List.getElem?_map, hc]; rfl
          obtain ⟨pb, pq, rfl, hcell⟩ := hj.1 (by omega)
          have hcell := hcell k cc hc
          have hlb := hj.2 cc (by rw [ec]; exact List.getElem_mem hkn)
          refine c_fin ?_
          refine c_nx (c_block ?_)
          refine c_rs ?_
          refine qg (run_ixSC _ _ _ _ rfl SlcK.out SizK.out Qv Qv rfl hkn _) ?_
          refine qg (run_lodCs (g := ljF cc) ManyK.out (fun k hk => at_below (hcell k hk) H.bel) rfl Qv) ?_
          refine q_al H ?_
          clear H
          intro w3 H z3
          refine q_sp H.a0 stP_whole (lyF_one _ _ _ _ _) ?_
          clear H
          intro w4 H z4
          refine l_nx ?_
          refine c_rs ?_
          iterate 2 refine qa ?_
          refine q_c1 (refDecode_ok cc.ao cc.y.n cc.cap cc.y.g _ hlb.2.2.2 hlb.2.2.1 hlb.2.1 (hlb.1.below H.bel)) ?_
          rintro e w5 ⟨E, v5, hE, rfl, o5, k5⟩
          obtain ⟨a5, c5, rfl, hc5⟩ := rw_slice o5
          refine ⟨.tuple #[agV (msF (dN E (cc.y.g 1) : Nat) (dN E (cc.y.g 2) : Nat) (dN E (dR cc.y.g) : Nat) (.slice a5 (dN E (cc.y.g 7)) c5)) 0 4, .int .i64 E], rfl, ?_⟩
          have hsz := H.size
          replace H := H.add k5 (ownI _ _ _ _ _ _) (rw_base o5 hsz) (fun j e => (o5.lt j e).1)
          iterate 3 refine qa ?_
          refine q_al H ?_
          clear H
          intro w6 H z6
          refine q_sp H.a0 stP_whole (msF_one _ _ _ _ _ _) ?_
          clear H
          intro w7 H z7
          refine qa ?_
          refine l_nx ?_
          refine c_rs ?_
          iterate 3 refine qa ?_
          by_cases h1 : cc.y.ph = (ph : Int)
          · refine qg (run_eqlI (b := true) _ _ rfl Qv Qv (decide_eq_true h1) _) ?_
            iterate 4 refine qa ?_
            by_cases h2 : cc.y.wo = (wo : Int)
            · refine qg (run_eqlI (b := true) _ _ rfl Qv Qv (decide_eq_true h2) _) ?_
              refine qg (run_pickT' _ _ _ rfl Qv Qv _) ?_
              iterate 2 refine qa ?_
              by_cases h3 : E = 0
              · subst h3
                refine qg (run_eqlE (b := true) _ _ rfl Qv Qv rfl _) ?_
                refine qg (run_pickT' _ _ _ rfl Qv Qv _) ?_
                iterate 5 refine qa ?_
                refine qg (run_pickT' _ _ _ rfl Qv Qv _) ?_
                refine l_nx ?_
                have hdm : dcM cc.y.n cc.y.g = [⟨(cc.y.g 1 : Nat), (cc.y.g 2 : Nat), (dR cc.y.g : Nat), (List.range (cc.y.g 7)).map (dV cc.y.g)⟩] := by unfold dcM; rw [if_pos (dcB_iff.2 hE)]
                refine q_if (fun h4 => ?_) (fun h4 => ?_)
                · have hF : ((cc.y.g 2 : Nat) : Int) = x.bad := (of_decide_eq_true h4).trans e2
                  have hln : ((List.range (cc.y.g 7)).map (dV cc.y.g)).length = cc.y.g 7 := by rw [List.length_map, List.length_range]
                  refine c_region ?_
                  iterate 2 refine qa ?_
                  refine m_do rfl (wanted_rd rfl) (fun K hK => ?_)
                  refine wp_oneMs _ _ rfl (c := ⟨⟨(cc.y.g 1 : Nat), (cc.y.g 2 : Nat), (dR cc.y.g : Nat), (List.range (cc.y.g 7)).map (dV cc.y.g)⟩, a5, c5⟩) (Eq.trans Qv (by unfold lmF lmV; rw [hln]; rfl)) ?_
                  intro w8 m8 k8 z8
                  refine hK _ _ ?_
                  clear hK K
                  replace H := H.tl
                  have er : ownI w.heap.size 3 1 (.slice a5 (dN 0 (cc.y.g 7)) c5) (dN 0 (cc.y.g 7)) (rowV (iF (dV cc.y.g)) (dN 0 (cc.y.g 7))) = ownI w.heap.size 3 1 (lmV ⟨⟨(cc.y.g 1 : Nat), (cc.y.g 2 : Nat), (dR cc.y.g : Nat), (List.range (cc.y.g 7)).map (dV cc.y.g)⟩, a5, c5⟩) ((List.range (cc.y.g 7)).map (dV cc.y.g)).length (rowV (iF (gL ((List.range (cc.y.g 7)).map (dV cc.y.g)))) ((List.range (cc.y.g 7)).map (dV cc.y.g)).length) := by
                    unfold lmV
                    dsimp only
                    rw [hln, rowV_congr (fun i hi => show iF (gL ((List.range (cc.y.g 7)).map (dV cc.y.g))) i = iF (dV cc.y.g) i by unfold iF; rw [gL_range hi])]
                    rfl
                  rw [er] at H
                  replace H := (om_made H k8 m8).f2
                  have H' := (H.sub (List.Sublist.cons_cons _ (List.Sublist.cons_cons _ (List.Sublist.cons _ (List.Sublist.refl _)))))
                  refine q_apM H' (by show M2.length + 1 ≤ _; omega) ?_
                  clear H H'
                  intro u9 w9 H
                  refine qa ?_
                  refine l_finB ?_
                  refine c_region ?_
                  repeat refine qa ?_
                  exact l_round ⟨LL.length - (k + 1), by omega, k + 1, _, M2 ++ [_], by omega, by omega, (szL _ _).trans hs, (defL _ _).trans hd, Qv, Qv, Qv, Qv, Qv, Qv, Qv, Qv, Eq.trans Qv (by rw [Int.natCast_add]; rfl), by rw [List.map_append, hM2, List.append_assoc, liM_take hy, if_pos ⟨h1, h2⟩, hdm]; simp [hF], H⟩
                · have hF : ((cc.y.g 2 : Nat) : Int) ≠ x.bad := fun e => of_decide_eq_false h4 (e.trans e2.symm)
                  refine c_finB ?_
                  refine c_region ?_
                  repeat refine qa ?_
                  exact l_round ⟨LL.length - (k + 1), by omega, k + 1, _, M2, by omega, by omega, (szL _ _).trans hs, (defL _ _).trans hd, Qv, Qv, Qv, Qv, Qv, Qv, Qv, Qv, Eq.trans Qv (by rw [Int.natCast_add]; rfl), by rw [hM2, liM_take hy, if_pos ⟨h1, h2⟩, hdm]; simp [hF], H.tl.tl.tl⟩
              · refine qg (run_eqlE (b := false) _ _ rfl Qv Qv (decide_eq_false h3) _) ?_
                refine qg (run_pickT' _ _ _ rfl Qv Qv _) ?_
                refine qa ?_
                iterate 4 refine q_skip ?_
                refine qg (run_pickF _ _ _ rfl Qv Qv _) ?_
                refine l_nx ?_
                refine q_no rfl (c_finB ?_)
                refine c_region ?_
                repeat refine qa ?_
                exact l_round ⟨LL.length - (k + 1), by omega, k + 1, _, M2, by omega, by omega, (szL _ _).trans hs, (defL _ _).trans hd, Qv, Qv, Qv, Qv, Qv, Qv, Qv, Qv, Eq.trans Qv (by rw [Int.natCast_add]; rfl), by rw [hM2, liM_take hy, if_pos ⟨h1, h2⟩]; unfold dcM; rw [dcB_no hE h3]; simp, H.tl.tl.tl⟩
            · refine qg (run_eqlI (b := false) _ _ rfl Qv Qv (decide_eq_false h2) _) ?_
              refine qg (run_pickT' _ _ _ rfl Qv Qv _) ?_
              refine qa ?_
              iterate 2 refine q_skip ?_
              refine qg (run_pickF _ _ _ rfl Qv Qv _) ?_
              refine qa ?_
              iterate 4 refine q_skip ?_
              refine qg (run_pickF _ _ _ rfl Qv Qv _) ?_
              refine l_nx ?_
              refine q_no rfl (c_finB ?_)
              refine c_region ?_
              repeat refine qa ?_
              exact l_round ⟨LL.length - (k + 1), by omega, k + 1, _, M2, by omega, by omega, (szL _ _).trans hs, (defL _ _).trans hd, Qv, Qv, Qv, Qv, Qv, Qv, Qv, Qv, Eq.trans Qv (by rw [Int.natCast_add]; rfl), by rw [liM_take hy, if_neg (fun e => h2 e.2), List.append_nil]; exact hM2, H.tl.tl.tl⟩
          · refine qg (run_eqlI (b := false) _ _ rfl Qv Qv (decide_eq_false h1) _) ?_
            refine qa ?_
            iterate 4 refine q_skip ?_
            refine qg (run_pickF _ _ _ rfl Qv Qv _) ?_
            refine qa ?_
            iterate 2 refine q_skip ?_
            refine qg (run_pickF _ _ _ rfl Qv Qv _) ?_
            refine qa ?_
            iterate 4 refine q_skip ?_
            refine qg (run_pickF _ _ _ rfl Qv Qv _) ?_
            refine l_nx ?_
            refine q_no rfl (c_finB ?_)
            refine c_region ?_
            repeat refine qa ?_
            exact l_round ⟨LL.length - (k + 1), by omega, k + 1, _, M2, by omega, by omega, (szL _ _).trans hs, (defL _ _).trans hd, Qv, Qv, Qv, Qv, Qv, Qv, Qv, Qv, Eq.trans Qv (by rw [Int.natCast_add]; rfl), by rw [liM_take hy, if_neg (fun e => h1 e.1), List.append_nil]; exact hM2, H.tl.tl.tl⟩
        · obtain rfl : k = LL.length := by have := of_decide_eq_false h; omega
          refine c_exit (x_out2 ?_)
          refine c_region ?_
          repeat refine qa ?_
          exact l_round ⟨4 - (i + 1), by omega, i + 1, _, M2, by omega, by omega, (szL _ _).trans hs, (defL _ _).trans hd, Qv, Qv, Qv, Qv, Qv, Eq.trans Qv (by rw [Int.natCast_add]; rfl), by rw [hM2]; show _ = bxM x told wo ph i ++ _; rw [if_neg e1, if_pos e2, hx, List.take_of_length_le (by rw [List.length_map]; exact Nat.le_refl _)], H⟩
  · obtain rfl : i = 4 := by have := of_decide_eq_false h; omega
    refine c_exit (x_out ?_)
    refine c_rs ?_
    repeat first | refine qa ?_ | refine l_nx ?_
    have hO : OwnM W w.heap.size u M := H.o0
    obtain ⟨mo, mc, rfl, hmc⟩ := rw_slice hO.1
    exact c_ret (ret_of ((defL _ _).trans hd) (res_t rfl Qv) ⟨mo, mc, M, rfl, hM, hO, H.bel⟩)

end Go.Proofs.YthimcecbgpamdaaGreat

namespace Go.Proofs.YthimcecbgpamdaaGreat
open Go.RowKit

theorem sen_row (rd : Nat → Int) (I : Nat) (hI : I < 4) : ∀ j, j < 12 → stP (fun _ => iV 0) (0 + I * 3) 3 (fun a => iV (rd a)) j = (fun i => iV ((fun s a => if s = I then rd a else 0) (i / 3) (i % 3))) j := by
  have : I = 0 ∨ I = 1 ∨ I = 2 ∨ I = 3 := by omega
  intro j hj
  rcases this with rfl | rfl | rfl | rfl
  · match j, hj with
    | 0, _ => rfl
    | 1, _ => rfl
    | 2, _ => rfl
    | 3, _ => rfl
    | 4, _ => rfl
    | 5, _ => rfl
    | 6, _ => rfl
    | 7, _ => rfl
    | 8, _ => rfl
    | 9, _ => rfl
    | 10, _ => rfl
    | 11, _ => rfl
  · match j, hj with
    | 0, _ => rfl
    | 1, _ => rfl
    | 2, _ => rfl
    | 3, _ => rfl
    | 4, _ => rfl
    | 5, _ => rfl
    | 6, _ => rfl
    | 7, _ => rfl
    | 8, _ => rfl
    | 9, _ => rfl
    | 10, _ => rfl
    | 11, _ => rfl
  · match j, hj with
    | 0, _ => rfl
    | 1, _ => rfl
    | 2, _ => rfl
    | 3, _ => rfl
    | 4, _ => rfl
    | 5, _ => rfl
    | 6, _ => rfl
    | 7, _ => rfl
    | 8, _ => rfl
    | 9, _ => rfl
    | 10, _ => rfl
    | 11, _ => rfl
  · match j, hj with
    | 0, _ => rfl
    | 1, _ => rfl
    | 2, _ => rfl
    | 3, _ => rfl
    | 4, _ => rfl
    | 5, _ => rfl
    | 6, _ => rfl
    | 7, _ => rfl
    | 8, _ => rfl
    | 9, _ => rfl
    | 10, _ => rfl
    | 11, _ => rfl
theorem sen_di {n : Nd} {rd : Nat → Int} {I : Nat} (h : n.id = (I : Int)) : (fun (s a : Nat) => if (s : Int) = n.id then rd a else 0) = fun s a => if s = I then rd a else 0 := by grind
set_option maxHeartbeats 1000000 in
theorem refSense_ok : SnOK 23 := by
  intro n ao c frame rd w hok hag rF rR
  have hag : Sr w ao n.vA.length c (tF (bA n)) := hag
  refine enterF Tryz.func23 rfl 37 rfl (of_decide_eq_true rfl) (fun A hs hd hb => ?_)
  have b0 : A.eval (.tmp 0) = ndV n (.slice ao n.vA.length c) := hb 0 _ rfl
  have b1 : A.eval (.tmp 1) = .int .i64 frame := hb 1 _ rfl
  have b2 : A.eval (.tmp 2) = agV (fun a => iV (rd a)) 0 3 := hb 2 _ rfl
  clear hb
  refine c_rs (m_start ?_)
  refine m_do rfl (wanted_rd rfl) (fun K hK => ?_)
  refine wp_boxG _ _ _ rfl (ev_out rfl b0) (of_decide_eq_true rfl) ?_
  intro w1 m1 k1 z1
  have sr1 := hag.below k1
  refine hK _ _ ?_
  clear hK K
  refine m_do rfl (wanted_rd rfl) (fun K hK => ?_)
  refine wp_boxG _ _ _ rfl (ev_out rfl b2) (of_decide_eq_true rfl) ?_
  intro w2 m2 k2 z2
  have mn2 := m1.below k2
  have sr2 := sr1.below k2
  refine hK _ _ ?_
  clear hK K
  refine m_do rfl (wanted_rd rfl) (fun K hK => ?_)
  refine wp_allocG _ _ rfl zeroNd (of_decide_eq_true rfl) ?_
  intro w3 m3 k3 z3
  have mn3 := mn2.below k3
  have mrd3 := m2.below k3
  have sr3 := sr2.below k3
  refine hK _ _ ?_
  clear hK K
  refine m_do rfl (wanted_rd rfl) (fun K hK => ?_)
  refine wp_allocG _ _ rfl zeroMs (of_decide_eq_true rfl) ?_
  intro w4 m4 k4 z4
  have mn4 := mn3.below k4
  have mrd4 := mrd3.below k4
  have mr4 := m3.below k4
  have sr4 := sr3.below k4
  refine hK _ _ ?_
  clear hK K
  refine l_nx ?_
  refine c_rs ?_
  refine m_mv rfl (wanted_rd rfl) (run_loadP _ _ rfl manyNd (ev_in rfl (by omega)) mn4 (by decide)) ?_
  refine m_do rfl (wanted_rd rfl) (fun K hK => ?_)
  refine wp_call1 _ 20 _ _ rfl (ev_in rfl (by omega)) (enter_copy _ _) (refCopy_any n ao c _ sr4 hok.vA) ?_
  rintro e w5 ⟨a3, c3, rfl, o5, k5⟩
  have n5 := k5.size
  have mn5 := mn4.below k5
  have mrd5 := mrd4.below k5
  have mr5 := mr4.below k5
  have mq5 := m4.below k5
  refine ⟨_, rfl, ?_⟩
  refine hK _ _ ?_
  clear hK K
  refine m_st (wanted_rd rfl) (fun K hK => ?_)
  refine wp_storeP _ _ _ _ rfl manyNd (ev_in rfl (by omega)) (ev_in rfl (by omega)) mn5 (by decide) (ndF_one _ _ _ _) rfl ?_
  intro w6 mm6 k6 z6
  have mn6 := Vh.congr mm6 (stP_all _ _)
  have mrd6 := mrd5.kept k6 (by omega)
  have mr6 := mr5.kept k6 (by omega)
  have mq6 := mq5.kept k6 (by omega)
  have ow6 := rw_kept o5 k6 (fun e => by have e1 := (o5.lt _ e).1; have e2 := (o5.lt _ e).2; omega)
  refine hK _ ?_
  clear hK K
  refine l_nx ?_
  refine c_nx ?_
  refine c_rs ?_
  refine m_mv rfl (wanted_rd rfl) (run_loadP _ _ rfl manyNd (ev_in rfl (by omega)) mn6 (by decide)) ?_
  refine m_do rfl (wanted_rd rfl) (fun K hK => ?_)
  refine wp_call1 _ 43 _ _ rfl (ev_in rfl (by omega)) (enter_none _ _) (refNone_any n _ _) ?_
  rintro e w7 ⟨rfl, k7⟩
  have n7 := k7.size
  have mn7 := mn6.below k7
  have mrd7 := mrd6.below k7
  have mr7 := mr6.below k7
  have mq7 := mq6.below k7
  have ow7 := rw_below ow6 k7
  refine ⟨_, rfl, ?_⟩
  refine hK _ _ ?_
  clear hK K
  refine l_nx ?_
  have kA : Below w.heap.size w w7 := (below_of_kept ((((k1.trans (k2.mono (by omega))).trans (k3.mono (by omega))).trans (k4.mono (by omega))).trans (k5.mono (by omega))) k6 (by omega) (by omega)).trans (k7.mono (by omega))
  refine c_cond (t := noN n.id) (ev_in rfl (by omega)) (fun hno => ?_) (fun hno => ?_)
  · refine c_rs ?_
    refine m_mv rfl (wanted_rd rfl) (run_loadP _ _ rfl manyNd (ev_in rfl (by omega)) mn7 (by decide)) ?_
    refine m_mv rfl (wanted_rd rfl) (run_bld0 rfl _) ?_
    refine m_st (wanted_rd rfl) (fun K hK => ?_)
    refine wp_storeP _ _ _ _ rfl manyNd (ev_in rfl (by omega)) (ev_in rfl (by omega)) mr7 (by decide) (ndF_one _ _ _ _) rfl ?_
    intro w8 mm8 k8 z8
    have mr8 := Vh.congr mm8 (stP_all _ _)
    have mn8 := mn7.kept k8 (by omega)
    have mrd8 := mrd7.kept k8 (by omega)
    have mq8 := mq7.kept k8 (by omega)
    have ow8 := rw_kept ow7 k8 (fun e => by have e1 := (o5.lt _ e).1; have e2 := (o5.lt _ e).2; omega)
    refine hK _ ?_
    clear hK K
    refine m_st (wanted_rd rfl) (fun K hK => ?_)
    refine wp_storeP _ _ _ _ rfl manyMs (ev_in rfl (by omega)) (ev_in rfl (by omega)) mq8 (by decide) (msF_one _ _ _ _ _ _) rfl ?_
    intro w9 mm9 k9 z9
    have mq9 := Vh.congr mm9 (stP_all4 _ _)
    have mn9 := mn8.kept k9 (by omega)
    have mrd9 := mrd8.kept k9 (by omega)
    have mr9 := mr8.kept k9 (by omega)
    have ow9 := rw_kept ow8 k9 (fun e => by have e1 := (o5.lt _ e).1; have e2 := (o5.lt _ e).2; omega)
    refine hK _ ?_
    clear hK K
    refine l_nx ?_
    refine c_ret ?_
    simp only [Nx, Exit.then]
    refine ret_of ((defL _ _).trans hd) (res_cc rfl (ev_in rfl (by omega)) (ev_in rfl (by omega)) manyNd manyMs mr9 (Nat.le_refl _) mq9 (Nat.le_refl _)) ⟨a3, c3, none, 0, ?_, rw_base ow9 (by omega), ?_, ?_⟩
    · unfold senN senM
      rw [if_pos hno, if_pos hno]
      rfl
    · unfold VaNew senM
      rw [if_pos hno]
      exact World.ownsRow_nil _ _ _ _
    · exact below_of_kept (below_of_kept kA k8 (by omega) (by omega)) k9 (by omega) (by omega)
  · obtain ⟨h0, h3⟩ := noN_in hno
    obtain ⟨I, hI⟩ : ∃ I : Nat, n.id = (I : Int) := ⟨n.id.toNat, by omega⟩
    have hi4 : I < 4 := by omega
    have e1 : senN n frame rd = { n with fr := frame, di := fun s a => if s = I then rd a else 0, he := fun _ => 0 } := by unfold senN; rw [if_neg (by rw [hno]; decide), sen_di hI]
    have e2 : senM n frame rd = ⟨1, n.id, frame, [rd 0, rd 1, rd 2]⟩ := by unfold senM; rw [if_neg (by rw [hno]; decide)]
    refine c_fin ?_
    refine c_rs ?_
    refine m_mv rfl (wanted_rd rfl) (run_move _ rfl (ev_out rfl b1) _) ?_
    refine m_mv rfl (wanted_rd rfl) (fldNd1 rfl (ev_in rfl (by omega)) _) ?_
    refine m_st (wanted_rd rfl) (fun K hK => ?_)
    refine wp_sto1 _ _ _ _ rfl oneI (ev_in rfl (by omega)) (ev_in rfl (by omega)) mn7 (by decide) rfl rfl rfl ?_
    intro w8 mm8 k8 z8
    have mn8 := Vh.congr mm8 (upd_fr _ _ _)
    have mrd8 := mrd7.kept k8 (by omega)
    have mr8 := mr7.kept k8 (by omega)
    have mq8 := mq7.kept k8 (by omega)
    have ow8 := rw_kept ow7 k8 (fun e => by have e1 := (o5.lt _ e).1; have e2 := (o5.lt _ e).2; omega)
    refine hK _ ?_
    clear hK K
    refine l_nx ?_
    refine c_rs ?_
    refine m_do rfl (wanted_rd rfl) (fun K hK => ?_)
    refine wp_allocG _ _ rfl zero43 (of_decide_eq_true rfl) ?_
    intro w9 m9 k9 z9
    have mn9 := mn8.below k9
    have mrd9 := mrd8.below k9
    have mr9 := mr8.below k9
    have mq9 := mq8.below k9
    have ow9 := rw_below ow8 k9
    refine hK _ _ ?_
    clear hK K
    refine l_nx ?_
    refine c_rs ?_
    refine m_mv rfl (wanted_rd rfl) (fldNd0 rfl (ev_in rfl (by omega)) _) ?_
    refine m_mv rfl (wanted_rd rfl) (run_lod1 _ _ rfl oneI (ev_in rfl (by omega)) mn9 (by decide) rfl) ?_
    refine m_mv rfl (wanted_rd rfl) (run_loadP _ _ rfl many3 (ev_in rfl (by omega)) mrd9 (by decide)) ?_
    refine m_mv rfl (wanted_rd rfl) (run_ixG _ _ _ _ rfl Tryz.underlying32 many3.size (ev_in rfl (by omega)) (ev_in rfl (by omega)) hI hi4 _) ?_
    refine m_st (wanted_rd rfl) (fun K hK => ?_)
    refine wp_storeP _ _ _ _ rfl many3 (ev_in rfl (by omega)) (ev_in rfl (by omega)) m9 (by omega) (fun j hj => rfl) rfl ?_
    intro w10 mm10 k10 z10
    have md10 := Vh.congr mm10 (sen_row rd I hi4)
    have mn10 := mn9.kept k10 (by omega)
    have mrd10 := mrd9.kept k10 (by omega)
    have mr10 := mr9.kept k10 (by omega)
    have mq10 := mq9.kept k10 (by omega)
    have ow10 := rw_kept ow9 k10 (fun e => by have e1 := (o5.lt _ e).1; have e2 := (o5.lt _ e).2; omega)
    refine hK _ ?_
    clear hK K
    refine l_nx ?_
    refine c_rs ?_
    refine m_mv rfl (wanted_rd rfl) (run_loadP _ _ rfl many43 (ev_in rfl (by omega)) md10 (by decide)) ?_
    refine m_mv rfl (wanted_rd rfl) (fldNd5 rfl (ev_in rfl (by omega)) _) ?_
    refine m_st (wanted_rd rfl) (fun K hK => ?_)
    refine wp_storeP _ _ _ _ rfl many43 (ev_in rfl (by omega)) (ev_in rfl (by omega)) mn10 (by decide) (fun j hj => rfl) rfl ?_
    intro w11 mm11 k11 z11
    have mn11 := Vh.congr mm11 (upd_di _ _ (fun s a => if s = I then rd a else 0))
    have mrd11 := mrd10.kept k11 (by omega)
    have mr11 := mr10.kept k11 (by omega)
    have mq11 := mq10.kept k11 (by omega)
    have md11 := md10.kept k11 (by omega)
    have ow11 := rw_kept ow10 k11 (fun e => by have e1 := (o5.lt _ e).1; have e2 := (o5.lt _ e).2; omega)
    refine hK _ ?_
    clear hK K
    refine l_nx ?_
    refine c_rs ?_
    refine m_mv rfl (wanted_rd rfl) (run_bld4 rfl _) ?_
    refine m_mv rfl (wanted_rd rfl) (fldNd6 rfl (ev_in rfl (by omega)) _) ?_
    refine m_st (wanted_rd rfl) (fun K hK => ?_)
    refine wp_storeP _ _ _ _ rfl many4 (ev_in rfl (by omega)) (ev_in rfl (by omega)) mn11 (by decide) (fun j hj => rfl) rfl ?_
    intro w12 mm12 k12 z12
    have mn12 := Vh.congr mm12 (upd_he _ _ (fun _ => 0))
    have mrd12 := mrd11.kept k12 (by omega)
    have mr12 := mr11.kept k12 (by omega)
    have mq12 := mq11.kept k12 (by omega)
    have md12 := md11.kept k12 (by omega)
    have ow12 := rw_kept ow11 k12 (fun e => by have e1 := (o5.lt _ e).1; have e2 := (o5.lt _ e).2; omega)
    refine hK _ ?_
    clear hK K
    refine l_nx ?_
    refine c_nx ?_
    have hS0 : (fun W => Vh 37 W w.heap.size 74 74 (ndF { n with fr := frame, di := fun s a => if s = I then rd a else 0, he := fun _ => 0 } (.slice a3 n.vA.length c3)) ∧ Vh 31 W w1.heap.size 3 3 (fun a => iV (rd a))) w12.drew := ⟨mn12, mrd12⟩
    have mr0 : Vh _ w12.drew _ _ _ _ := mr12
    have mq0 : Vh _ w12.drew _ _ _ _ := mq12
    have ow0 := (show World.ownsRow w12.drew _ _ _ _ _ _ from ow12)
    have ez : w12.drew.heap.size = w12.heap.size := rfl
    have kD : Below w.heap.size w w12.drew := below_drew (below_of_kept (below_of_kept (below_of_kept ((below_of_kept kA k8 (by omega) (by omega)).trans (k9.mono (by omega))) k10 (by omega) (by omega)) k11 (by omega) (by omega)) k12 (by omega) (by omega))
    refine c_rj (S := fun W => Vh 37 W w.heap.size 74 74 (ndF { n with fr := frame, di := fun s a => if s = I then rd a else 0, he := fun _ => 0 } (.slice a3 n.vA.length c3)) ∧ Vh 31 W w1.heap.size 3 3 (fun a => iV (rd a))) (.rd 0 (.mv 1 (.rd 2 (.mv 3 (.mv 4 (.rd 5 (.mv 6 (.rd 7 (.mv 8 (.rd 9 (.two 10 12 (.mv 11 (.go 12 (.go 13 .fin))) (.go 10 (.mv 11 (.go 13 .fin)))))))))))))) [] (by kernel_rfl) (by kernel_rfl) ?_
    refine j_rd rfl rfl (fun _ _ _ h => h) (wanted_rd rfl) hS0 (fun _ hS => run_loadP _ _ rfl manyNd (ev_in rfl (by omega)) hS.1 (by decide)) ?_
    refine j_mv rfl rfl (fun _ _ _ h => h) (wanted_rd rfl) (fun _ => fldNd0 rfl (ev_in rfl (by omega)) _) ?_
    refine j_rd rfl rfl (fun _ _ _ h => h) (wanted_rd rfl) hS0 (fun _ hS => run_lod1 _ _ rfl oneI (ev_in rfl (by omega)) hS.1 (by decide) rfl) ?_
    refine j_mv rfl rfl (fun _ _ _ h => h) (wanted_rd rfl) (fun _ => run_move _ rfl (ev_out rfl b1) _) ?_
    refine j_mv rfl rfl (fun _ _ _ h => h) (wanted_rd rfl) (fun _ => run_ixG _ _ _ _ rfl Tryz.underlying31 oneI.size (ev_in rfl (by omega)) (ev_const _ _) (i := 0) rfl (by decide) _) ?_
    refine j_rd rfl rfl (fun _ _ _ h => h) (wanted_rd rfl) hS0 (fun _ hS => run_lod1 _ _ rfl oneI (ev_in rfl (by omega)) hS.2 (by decide) rfl) ?_
    refine j_mv rfl rfl (fun _ _ _ h => h) (wanted_rd rfl) (fun _ => run_ixG _ _ _ _ rfl Tryz.underlying31 oneI.size (ev_in rfl (by omega)) (ev_const _ _) (i := 1) rfl (by decide) _) ?_
    refine j_rd rfl rfl (fun _ _ _ h => h) (wanted_rd rfl) hS0 (fun _ hS => run_lod1 _ _ rfl oneI (ev_in rfl (by omega)) hS.2 (by decide) rfl) ?_
    refine j_mv rfl rfl (fun _ _ _ h => h) (wanted_rd rfl) (fun _ => run_ixG _ _ _ _ rfl Tryz.underlying31 oneI.size (ev_in rfl (by omega)) (ev_const _ _) (i := 2) rfl (by decide) _) ?_
    refine j_rd rfl rfl (fun _ _ _ h => h) (wanted_rd rfl) hS0 (fun _ hS => run_lod1 _ _ rfl oneI (ev_in rfl (by omega)) hS.2 (by decide) rfl) ?_
    refine j_two ?_ ?_
    · refine j_do rfl rfl (wanted_rd rfl) (fun K hK => ?_)
      refine wp_row3 _ _ _ _ rfl (g := rd) (ev_in rfl (by omega)) (ev_in rfl (by omega)) (ev_in rfl (by omega)) ?_
      intro w13 mv13 k13 z13
      have hS13 : (fun W => Vh 37 W w.heap.size 74 74 (ndF { n with fr := frame, di := fun s a => if s = I then rd a else 0, he := fun _ => 0 } (.slice a3 n.vA.length c3)) ∧ Vh 31 W w1.heap.size 3 3 (fun a => iV (rd a))) w13 := ⟨hS0.1.below k13, hS0.2.below k13⟩
      have mr13 := mr0.below k13
      have mq13 := mq0.below k13
      have ow13 := rw_below ow0 k13
      refine hK _ _ (fun _ _ => hS13) ?_
      clear hK K
      refine j_mv rfl rfl (fun _ _ _ h => h) (wanted_rd rfl) (fun _ => run_bldM _ _ _ _ rfl (ev_const _ _) (ev_in rfl (by omega)) (ev_in rfl (by omega)) (ev_in rfl (by omega)) _) ?_
      refine j_st rfl (wanted_rd rfl) (fun K hK => ?_)
      refine wp_storeP _ _ _ _ rfl manyNd (ev_in rfl (by omega)) (ev_in rfl (by omega)) mr13 (by decide) (ndF_one _ _ _ _) rfl ?_
      intro w14 mm14 k14 z14
      have mr14 := Vh.congr mm14 (stP_all _ _)
      have hS14 : (fun W => Vh 37 W w.heap.size 74 74 (ndF { n with fr := frame, di := fun s a => if s = I then rd a else 0, he := fun _ => 0 } (.slice a3 n.vA.length c3)) ∧ Vh 31 W w1.heap.size 3 3 (fun a => iV (rd a))) w14 := ⟨hS13.1.kept k14 (by omega), hS13.2.kept k14 (by omega)⟩
      have mq14 := mq13.kept k14 (by omega)
      have ow14 := rw_under ow13 k14 (by omega)
      have mv14 := mv13.kept k14 (by omega)
      refine hK _ (fun _ _ => hS14) ?_
      clear hK K
      refine j_st rfl (wanted_rd rfl) (fun K hK => ?_)
      refine wp_storeP _ _ _ _ rfl manyMs (ev_in rfl (by omega)) (ev_in rfl (by omega)) mq14 (by decide) (msF_one _ _ _ _ _ _) rfl ?_
      intro w15 mm15 k15 z15
      have mq15 := Vh.congr mm15 (stP_all4 _ _)
      have hS15 : (fun W => Vh 37 W w.heap.size 74 74 (ndF { n with fr := frame, di := fun s a => if s = I then rd a else 0, he := fun _ => 0 } (.slice a3 n.vA.length c3)) ∧ Vh 31 W w1.heap.size 3 3 (fun a => iV (rd a))) w15 := ⟨hS14.1.kept k15 (by omega), hS14.2.kept k15 (by omega)⟩
      have mr15 := mr14.kept k15 (by omega)
      have ow15 := rw_under ow14 k15 (by omega)
      have mv15 := mv14.kept k15 (by omega)
      refine hK _ (fun _ _ => hS15) ?_
      clear hK K
      refine j_nx ?_
      refine c_ret ?_
      refine ret_of ((defL _ _).trans hd) (res_cc rfl (ev_in rfl (by omega)) (ev_in rfl (by omega)) manyNd manyMs mr15 (Nat.le_refl _) mq15 (Nat.le_refl _)) ⟨a3, c3, some ⟨w12.drew.heap.size, 0, none⟩, 3, ?_, rw_base ow15 (by omega), ?_, below_of_kept (below_of_kept (kD.trans (k13.mono (by omega))) k14 (by omega) (by omega)) k15 (by omega) (by omega)⟩
      · rw [e1, e2]
        rfl
      · unfold VaNew
        rw [e2]
        exact Vh.owns (Vh.congr mv15 (fun i hi => (by
          match i, hi with
          | 0, _ => rfl
          | 1, _ => rfl
          | 2, _ => rfl))) (by omega)
    · refine j_st rfl (wanted_rd rfl) (fun K hK => ?_)
      refine wp_storeP _ _ _ _ rfl manyNd (ev_in rfl (by omega)) (ev_in rfl (by omega)) mr0 (by decide) (ndF_one _ _ _ _) rfl ?_
      intro w13 mm13 k13 z13
      have mr13 := Vh.congr mm13 (stP_all _ _)
      have hS13 : (fun W => Vh 37 W w.heap.size 74 74 (ndF { n with fr := frame, di := fun s a => if s = I then rd a else 0, he := fun _ => 0 } (.slice a3 n.vA.length c3)) ∧ Vh 31 W w1.heap.size 3 3 (fun a => iV (rd a))) w13 := ⟨hS0.1.kept k13 (by omega), hS0.2.kept k13 (by omega)⟩
      have mq13 := mq0.kept k13 (by omega)
      have ow13 := rw_under ow0 k13 (by omega)
      refine hK _ (fun _ _ => hS13) ?_
      clear hK K
      refine j_do rfl rfl (wanted_rd rfl) (fun K hK => ?_)
      refine wp_row3 _ _ _ _ rfl (g := rd) (ev_in rfl (by omega)) (ev_in rfl (by omega)) (ev_in rfl (by omega)) ?_
      intro w14 mv14 k14 z14
      have hS14 : (fun W => Vh 37 W w.heap.size 74 74 (ndF { n with fr := frame, di := fun s a => if s = I then rd a else 0, he := fun _ => 0 } (.slice a3 n.vA.length c3)) ∧ Vh 31 W w1.heap.size 3 3 (fun a => iV (rd a))) w14 := ⟨hS13.1.below k14, hS13.2.below k14⟩
      have mr14 := mr13.below k14
      have mq14 := mq13.below k14
      have ow14 := rw_below ow13 k14
      refine hK _ _ (fun _ _ => hS14) ?_
      clear hK K
      refine j_mv rfl rfl (fun _ _ _ h => h) (wanted_rd rfl) (fun _ => run_bldM _ _ _ _ rfl (ev_const _ _) (ev_in rfl (by omega)) (ev_in rfl (by omega)) (ev_in rfl (by omega)) _) ?_
      refine j_st rfl (wanted_rd rfl) (fun K hK => ?_)
      refine wp_storeP _ _ _ _ rfl manyMs (ev_in rfl (by omega)) (ev_in rfl (by omega)) mq14 (by decide) (msF_one _ _ _ _ _ _) rfl ?_
      intro w15 mm15 k15 z15
      have mq15 := Vh.congr mm15 (stP_all4 _ _)
      have hS15 : (fun W => Vh 37 W w.heap.size 74 74 (ndF { n with fr := frame, di := fun s a => if s = I then rd a else 0, he := fun _ => 0 } (.slice a3 n.vA.length c3)) ∧ Vh 31 W w1.heap.size 3 3 (fun a => iV (rd a))) w15 := ⟨hS14.1.kept k15 (by omega), hS14.2.kept k15 (by omega)⟩
      have mr15 := mr14.kept k15 (by omega)
      have ow15 := rw_under ow14 k15 (by omega)
      have mv15 := mv14.kept k15 (by omega)
      refine hK _ (fun _ _ => hS15) ?_
      clear hK K
      refine j_nx ?_
      refine c_ret ?_
      refine ret_of ((defL _ _).trans hd) (res_cc rfl (ev_in rfl (by omega)) (ev_in rfl (by omega)) manyNd manyMs mr15 (Nat.le_refl _) mq15 (Nat.le_refl _)) ⟨a3, c3, some ⟨w13.heap.size, 0, none⟩, 3, ?_, rw_base ow15 (by omega), ?_, below_of_kept ((below_of_kept kD k13 (by omega) (by omega)).trans (k14.mono (by omega))) k15 (by omega) (by omega)⟩
      · rw [e1, e2]
        rfl
      · unfold VaNew
        rw [e2]
        exact Vh.owns (Vh.congr mv15 (fun i hi => (by
          match i, hi with
          | 0, _ => rfl
          | 1, _ => rfl
          | 2, _ => rfl))) (by omega)

end Go.Proofs.YthimcecbgpamdaaGreat

namespace Go.Proofs.YthimcecbgpamdaaGreat
open Go.RowKit

set_option maxHeartbeats 400000 in
theorem trim_core (b cap n : Nat) (f : Nat → Int) (hc : n ≤ cap) (hm : cap ≤ 1099511627776) (w : World) (hr : Row w b n f) :
    Calls Tryz.prog 164 #[.slice (some ⟨b, 0, none⟩) n cap] w fun e w' =>
      ∃ m : Nat, e = .returned (.slice (some ⟨b, 0, none⟩) m cap) ∧ m ≤ n ∧ (∀ i, m ≤ i → i < n → f i = 0) ∧ Nm m f ∧ w' = w := by
  have HR := hide hr
  clear hr
  go_enter Tryz.func164, Tryz.ntmps164
  go_wp2_with fail
  go_loop [3] (fun i => ∃ m : Nat, i = .int .i64 m ∧ m ≤ n ∧ ∀ i, m ≤ i → i < n → f i = 0) (fun i => (intOf i).toNat)
  case atStart => exact ⟨n, rfl, Nat.le_refl _, fun i hi h2 => by omega⟩
  case round =>
    obtain ⟨m, rfl, hm2, hz⟩ := hrel
    have HZ := hide hz
    clear hz
    by_cases h0 : m = 0
    · subst h0
      go_wp2_with fail
      go_ret
      exact ⟨0, rfl, by omega, unhide HZ, Or.inl rfl, rfl⟩
    · obtain ⟨k, rfl⟩ : ∃ k, m = k + 1 := ⟨m - 1, by omega⟩
      have hcell := unhide HR k (by omega)
      by_cases hx : f k = 0
      · have ht : (f k == 0) = true := by simpa using hx
        have HX := hide hx
        clear hx h0
        go_wp2_with fail
        go_round
        case rel => exact ⟨k, by go_num, by omega, fun i hi h2 => by
          rcases Nat.lt_or_ge k i with h | h
          · exact unhide HZ i (by omega) h2
          · have : i = k := by omega
            subst this; exact unhide HX⟩
        case measure => simp [intOf]
      · have ht : (f k == 0) = false := by simpa using hx
        have HX := hide hx
        clear hx h0
        go_wp2_with fail
        go_ret
        exact ⟨k + 1, rfl, by omega, unhide HZ, Or.inr (unhide HX), rfl⟩

set_option maxHeartbeats 400000 in
theorem words_any (x : Int) (x0 : 0 ≤ x) (x1 : x < 18446744073709551616) (w : World) :
    Calls Tryz.prog 163 #[.int .u64 x] w fun e w' =>
      ∃ (v : Value) (m : Nat) (f : Nat → Int), e = .returned v ∧ Sl w' v m f ∧ Wd m f ∧ Nm m f ∧ val f m = x ∧ Below w.heap.size w w' := by
  go_enter Tryz.func163, Tryz.ntmps163
  go_wp2_with fail
  have hr : Row (w.alloc (.cells #[.int .u32 (x % 4294967296), .int .u32 (x / 4294967296)] 200)) w.heap.size 2 (fun i => if i = 0 then x % 4294967296 else x / 4294967296) := by
    intro i hi
    rw [World.cell?_alloc_new]
    match i, hi with
    | 0, _ => rfl
    | 1, _ => rfl
  refine (trim_core w.heap.size 2 2 _ (by decide) (by decide) _ hr).mono ?_
  rintro e w1 ⟨m, rfl, hm, hz, hn, rfl⟩
  have hw : Wd 2 (fun i => if i = 0 then x % 4294967296 else x / 4294967296) := by
    intro i hi
    match i, hi with
    | 0, _ => exact ⟨by show 0 ≤ x % 4294967296; omega, by show x % 4294967296 < 4294967296; omega⟩
    | 1, _ => exact ⟨by show 0 ≤ x / 4294967296; omega, by show x / 4294967296 < 4294967296; omega⟩
  have hv : val (fun i => if i = 0 then x % 4294967296 else x / 4294967296) 2 = x := by
    show 0 + x % 4294967296 * 4294967296 ^ 0 + x / 4294967296 * 4294967296 ^ 1 = x
    simp only [Int.reducePow]; omega
  rw [val_noughts hm hz] at hv
  have F := hide (show ∃ (v : Value) (m' : Nat) (f : Nat → Int), Ending.returned (Value.slice (some ⟨w.heap.size, 0, none⟩) m 2) = Ending.returned v ∧ Sl (w.alloc (.cells #[.int .u32 (x % 4294967296), .int .u32 (x / 4294967296)] 200)) v m' f ∧ Wd m' f ∧ Nm m' f ∧ val f m' = x ∧ Below w.heap.size w (w.alloc (.cells #[.int .u32 (x % 4294967296), .int .u32 (x / 4294967296)] 200)) from
    ⟨_, m, _, rfl, Or.inr ⟨w.heap.size, 2, rfl, hm, by decide, by simp, hr.less hm⟩, hw.less hm, hn, hv, (Below.refl _ _).alloc (Nat.le_refl _) _⟩)
  clear hr hw hv hn hz
  go_wp2_with fail
  go_ret
  exact unhide F

end Go.Proofs.YthimcecbgpamdaaGreat

namespace Go.Proofs.YthimcecbgpamdaaGreat
open Go.RowKit

/-- The number at block b: its sign's cell and its words' cell. -/
def IntAt (w : World) (b : Nat) (s v : Value) : Prop := w.heap[b]? = some (.cells #[s, v] 172 (0, 0))

theorem IntAt.cell0 {w : World} {b : Nat} {s v : Value} (h : IntAt w b s v) : w.cell? ⟨b, 0, none⟩ = some s := by
  unfold IntAt at h; simp [World.cell?, h]
theorem IntAt.cell1 {w : World} {b : Nat} {s v : Value} (h : IntAt w b s v) : w.cell? ⟨b, 1, none⟩ = some v := by
  unfold IntAt at h; simp [World.cell?, h]
theorem IntAt.free {w : World} {b : Nat} {s v : Value} (h : IntAt w b s v) (i : Nat) : w.frozen? ⟨b, i, none⟩ = false := by
  unfold IntAt at h; simp [World.frozen?, h]
theorem IntAt.lt {w : World} {b : Nat} {s v : Value} (h : IntAt w b s v) : b < w.heap.size := lt_of_block h
theorem IntAt.kept {z : Nat} {w w' : World} {b : Nat} {s v : Value} (h : IntAt w b s v) (k : Kept z w w') (hz : b ≠ z) : IntAt w' b s v := by
  unfold IntAt at h ⊢; rw [k.block b (lt_of_block h) hz]; exact h
theorem IntAt.below {w w' : World} {b : Nat} {s v : Value} (h : IntAt w b s v) (k : Below w.heap.size w w') : IntAt w' b s v := by
  unfold IntAt at h ⊢; rw [k.block b (lt_of_block h)]; exact h
theorem Kept.refl (z : Nat) (w : World) : Kept z w w := ⟨rfl, rfl, rfl, Nat.le_refl _, fun _ _ _ => rfl⟩
theorem Kept.setCell {z : Nat} {a w : World} (h : Kept z a w) (i : Nat) (u : Value) : Kept z a (w.setCell ⟨z, i, none⟩ u) :=
  ⟨h.os, h.tape, h.output, by simpa [World.setCell] using h.size, fun k hk hn => (heap_setCell_other w ⟨z, i, none⟩ k u hn).trans (h.block k hk hn)⟩
theorem give_world {w : World} {z : Nat} {n0 v0 : Value} (hz : IntAt w z n0 v0) (s v : Value) :
    IntAt ((w.setCell ⟨z, 1, none⟩ v).setCell ⟨z, 0, none⟩ s) z s v := by
  unfold IntAt at hz ⊢
  have h1 := heap_setCell_same w z 1 _ _ v hz
  have h2 := heap_setCell_same _ z 0 _ _ s h1
  exact h2

set_option maxHeartbeats 400000 in
theorem give_any (z n cap : Nat) (ao : Option Addr) (neg : Bool) (n0 v0 : Value) (w : World) (hz : IntAt w z n0 v0) :
    Calls Tryz.prog 111 #[.pointer (some ⟨z, 0, none⟩), .bool neg, .slice ao n cap] w fun e w' =>
      e = .returned (.pointer (some ⟨z, 0, none⟩)) ∧ IntAt w' z (.bool (neg && decide (0 < n))) (.slice ao n cap) ∧ Kept z w w' := by
  have c0 := hz.cell0; have c1 := hz.cell1; have f0 := hz.free 0; have f1 := hz.free 1
  have HZ := hide hz
  clear hz
  cases neg
  · go_enter Tryz.func111, Tryz.ntmps111
    go_wp2_with fail
    go_ret
    exact ⟨rfl, give_world (unhide HZ) _ _, ((Kept.refl z w).setCell 1 _).setCell 0 _⟩
  · go_enter Tryz.func111, Tryz.ntmps111
    go_wp2_with fail
    go_ret
    exact ⟨rfl, give_world (unhide HZ) _ _, ((Kept.refl z w).setCell 1 _).setCell 0 _⟩

/-- The whole number x lies at block b. -/
def Num (w : World) (b : Nat) (x : Int) : Prop :=
  ∃ (neg : Bool) (v : Value) (n : Nat) (f : Nat → Int), IntAt w b (.bool neg) v ∧ Sl w v n f ∧ Wd n f ∧ Nm n f ∧ x = sgnZ neg (val f n) ∧ (n = 0 → neg = false)

theorem Sl.other {z : Nat} {w w' : World} {v v0 : Value} {s0 : Bool} {n : Nat} {f : Nat → Int} (h : Sl w v n f) (k : Kept z w w') (hz : IntAt w z (.bool s0) v0) : Sl w' v n f := by
  rcases h with h | ⟨b, cap, hv, h1, h2, h3, h4⟩
  · exact Or.inl h
  · rcases Nat.eq_zero_or_pos n with h0 | h0
    · subst h0
      exact Or.inr ⟨b, cap, hv, h1, h2, Nat.lt_of_lt_of_le h3 k.size, fun i hi => absurd hi (by omega)⟩
    · have hb : b ≠ z := by
        intro e
        subst e
        have c := h4 0 h0
        rw [hz.cell0] at c
        cases c
      exact Or.inr ⟨b, cap, hv, h1, h2, Nat.lt_of_lt_of_le h3 k.size, h4.same (k.block b h3 hb)⟩
theorem Num.lt {w : World} {b : Nat} {x : Int} (h : Num w b x) : b < w.heap.size := by
  obtain ⟨neg, v, n, f, h, -⟩ := h; exact h.lt
theorem Num.other {z : Nat} {w w' : World} {v0 : Value} {s0 : Bool} {b : Nat} {x : Int} (h : Num w b x) (k : Kept z w w') (hb : b ≠ z) (hz : IntAt w z (.bool s0) v0) : Num w' b x := by
  obtain ⟨neg, v, n, f, h1, h2, h3, h4, h5, h6⟩ := h
  exact ⟨neg, v, n, f, h1.kept k hb, h2.other k hz, h3, h4, h5, h6⟩
theorem Num.below {w w' : World} {b : Nat} {x : Int} (h : Num w b x) (k : Below w.heap.size w w') : Num w' b x := by
  obtain ⟨neg, v, n, f, h1, h2, h3, h4, h5, h6⟩ := h
  exact ⟨neg, v, n, f, h1.below k, h2.below k, h3, h4, h5, h6⟩
theorem val_pos {f : Nat → Int} {n : Nat} (hw : Wd n f) (hn : Nm n f) (h : n ≠ 0) : 0 < val f n := by
  obtain ⟨m, rfl⟩ : ∃ m, n = m + 1 := ⟨n - 1, by omega⟩
  have := val_ge hw (by rcases hn with h | h; exact absurd h (by omega); exact h)
  have := pow_pos m
  omega
/-- What give makes of words. -/
theorem num_of_give {w : World} {z n : Nat} {v : Value} {f : Nat → Int} {neg : Bool} (h : IntAt w z (.bool (neg && decide (0 < n))) v) (hs : Sl w v n f) (hw : Wd n f) (hn : Nm n f) : Num w z (sgnZ neg (val f n)) := by
  refine ⟨_, v, n, f, h, hs, hw, hn, ?_, ?_⟩
  · rcases Nat.eq_zero_or_pos n with h0 | h0
    · subst h0; cases neg <;> rfl
    · rw [decide_eq_true h0]; simp
  · intro h0; subst h0; simp

set_option maxHeartbeats 400000 in
theorem setInt64_any (z : Nat) (x : Int) (hx : R64 x) (s0 : Bool) (v0 : Value) (w : World) (hz : IntAt w z (.bool s0) v0) :
    Calls Tryz.prog 136 #[.pointer (some ⟨z, 0, none⟩), .int .i64 x] w fun e w' =>
      e = .returned (.pointer (some ⟨z, 0, none⟩)) ∧ Num w' z x ∧ Kept z w w' := by
  have HZ := hide hz
  obtain ⟨a1, a2⟩ := hx
  clear hz
  by_cases h : x < 0
  · have e1 : Hid (IntKind.u64.wrap (-IntKind.u64.wrap x) = -x) := by show _ = _; rw [IntKind.wrap_u64, IntKind.wrap_u64]; omega
    go_enter Tryz.func136, Tryz.ntmps136
    go_wp2_with fail
    rw [unhide e1]
    refine (words_any (-x) (by omega) (by omega) _).mono ?_
    rintro e w1 ⟨v, m, f, rfl, hs, hw, hn, hv, hb⟩
    have H1 := hide hs; have H2 := hide hw; have H3 := hide hn; have H4 := hide hv; have H5 := hide hb
    rcases hs with ⟨rfl, rfl⟩ | ⟨b, cap, rfl, -, -, -, -⟩
    all_goals
      clear hw hn hv hb
      go_wp2_with fail
      refine (give_any z _ _ _ true _ _ _ ((unhide HZ).below (unhide H5))).mono ?_
      rintro e w2 ⟨rfl, hi, hk⟩
      have F := hide (show Num w2 z x ∧ Kept z w w2 from by
        have hsl := (unhide H1).other hk ((unhide HZ).below (unhide H5))
        have hnum := num_of_give hi hsl (unhide H2) (unhide H3)
        rw [unhide H4] at hnum
        have e2 : sgnZ true (-x) = x := by show - -x = x; omega
        rw [e2] at hnum
        exact ⟨hnum, (Kept.of_below (unhide H5)).trans hk (Or.inl rfl)⟩)
      clear hi hk
      go_wp2_with fail
      go_ret
      exact ⟨rfl, (unhide F).1, (unhide F).2⟩
  · go_enter Tryz.func136, Tryz.ntmps136
    go_wp2_with fail
    refine (words_any x (by omega) (by omega) _).mono ?_
    rintro e w1 ⟨v, m, f, rfl, hs, hw, hn, hv, hb⟩
    have H1 := hide hs; have H2 := hide hw; have H3 := hide hn; have H4 := hide hv; have H5 := hide hb
    rcases hs with ⟨rfl, rfl⟩ | ⟨b, cap, rfl, -, -, -, -⟩
    all_goals
      clear hw hn hv hb
      go_wp2_with fail
      refine (give_any z _ _ _ false _ _ _ ((unhide HZ).below (unhide H5))).mono ?_
      rintro e w2 ⟨rfl, hi, hk⟩
      have F := hide (show Num w2 z x ∧ Kept z w w2 from by
        have hsl := (unhide H1).other hk ((unhide HZ).below (unhide H5))
        have hnum := num_of_give hi hsl (unhide H2) (unhide H3)
        rw [unhide H4] at hnum
        exact ⟨hnum, (Kept.of_below (unhide H5)).trans hk (Or.inl rfl)⟩)
      clear hi hk
      go_wp2_with fail
      go_ret
      exact ⟨rfl, (unhide F).1, (unhide F).2⟩

/-- new(Int). -/
theorem intAt_new (w : World) : IntAt (w.alloc (.cells #[.bool false, .slice none 0 0] 172)) w.heap.size (.bool false) (.slice none 0 0) := by
  unfold IntAt
  show (w.heap.push _)[w.heap.size]? = _
  rw [Array.getElem?_push_size]
theorem below_new (w : World) (o : Obj) : Below w.heap.size w (w.alloc o) := (Below.refl _ _).alloc (Nat.le_refl _) _
/-- A block that was new, and then written. -/
theorem below_of_new {w w2 : World} {o : Obj} (k : Kept w.heap.size (w.alloc o) w2) : Below w.heap.size w w2 :=
  ((Kept.of_below (z := w.heap.size) (below_new w o)).trans k (Or.inl rfl)).below (Nat.le_refl _)

set_option maxHeartbeats 400000 in
theorem newInt_any (x : Int) (hx : R64 x) (w : World) :
    Calls Tryz.prog 110 #[.int .i64 x] w fun e w' =>
      ∃ b : Nat, e = .returned (.pointer (some ⟨b, 0, none⟩)) ∧ w.heap.size ≤ b ∧ Num w' b x ∧ Below w.heap.size w w' := by
  have HX := hide hx
  clear hx
  go_enter Tryz.func110, Tryz.ntmps110
  go_wp2_with fail
  refine (setInt64_any _ x (unhide HX) _ _ _ (intAt_new w)).mono ?_
  rintro e w2 ⟨rfl, hn, hk⟩
  have F := hide (show Num w2 w.heap.size x ∧ Below w.heap.size w w2 from ⟨hn, below_of_new hk⟩)
  clear hn hk
  go_wp2_with fail
  go_ret
  exact ⟨w.heap.size, rfl, Nat.le_refl _, (unhide F).1, (unhide F).2⟩

set_option maxHeartbeats 400000 in
theorem whole_any (x : Int) (hx : R64 x) (w : World) :
    Calls Tryz.prog 81 #[.int .i64 x] w fun e w' =>
      ∃ b : Nat, e = .returned (.pointer (some ⟨b, 0, none⟩)) ∧ w.heap.size ≤ b ∧ Num w' b x ∧ Below w.heap.size w w' := by
  have HX := hide hx
  obtain ⟨x1, x2⟩ := hx
  go_enter Tryz.func81, Tryz.ntmps81
  go_wp2_with fail
  refine (newInt_any x (unhide HX) _).mono ?_
  rintro e w2 ⟨b, rfl, hb, hn, hk⟩
  have F := hide (show w.heap.size ≤ b ∧ Num w2 b x ∧ Below w.heap.size w w2 from ⟨hb, hn, hk⟩)
  clear hb hn hk
  go_wp2_with fail
  go_ret
  exact ⟨b, rfl, (unhide F).1, (unhide F).2.1, (unhide F).2.2⟩

end Go.Proofs.YthimcecbgpamdaaGreat

namespace Go.Proofs.YthimcecbgpamdaaGreat
open Go.RowKit

theorem Tryz.infoU32 : (Tryz.prog.info? 200).map (fun i => (i.zero, i.size, i.bytes)) = some (some (.int .u32 0), 1, 4) := by kernel_rfl

/-- A block of N words, the call's own. -/
def Own (w : World) (b N : Nat) (g : Nat → Int) : Prop := w.rowIs b 200 N (fun j => .int .u32 (g j))
/-- One word laid anew. -/
def upd (g : Nat → Int) (k : Nat) (x : Int) : Nat → Int := fun j => if j = k then x else g j

theorem upd_same (g : Nat → Int) (k : Nat) (x : Int) : upd g k x k = x := if_pos rfl
theorem upd_other (g : Nat → Int) {k j : Nat} (x : Int) (h : j ≠ k) : upd g k x j = g j := if_neg h
theorem val_upd (g : Nat → Int) (k : Nat) (x : Int) : val (upd g k x) (k + 1) = val g k + x * 4294967296 ^ k := by
  show val (upd g k x) k + upd g k x k * 4294967296 ^ k = _
  rw [upd_same, val_congr (fun i hi => upd_other g x (by omega))]
theorem Wd.upd {g : Nat → Int} {k : Nat} {x : Int} (h : Wd k g) (h0 : 0 ≤ x) (h1 : x < 4294967296) : Wd (k + 1) (upd g k x) := by
  intro i hi
  rcases Nat.lt_or_ge i k with h2 | h2
  · rw [upd_other g x (by omega)]; exact h i h2
  · have : i = k := by omega
    subst this; rw [upd_same]; exact ⟨h0, h1⟩

theorem Own.set {w : World} {b N : Nat} {g : Nat → Int} (h : Own w b N g) (k : Nat) (x : Int) : Own (w.setCell ⟨b, k, none⟩ (.int .u32 x)) b N (upd g k x) := by
  have h2 := World.rowIs.set h k (.int .u32 x)
  have e : (fun j => if j = k then Value.int .u32 x else (fun j => Value.int .u32 (g j)) j) = fun j => Value.int .u32 (upd g k x j) := by
    funext j
    show (if j = k then Value.int .u32 x else Value.int .u32 (g j)) = Value.int .u32 (if j = k then x else g j)
    split <;> rfl
  rw [e] at h2
  exact h2

theorem Own.cell {w : World} {b N : Nat} {g : Nat → Int} (h : Own w b N g) {i : Nat} (hi : i < N) : w.cell? ⟨b, i, none⟩ = some (.int .u32 (g i)) := World.rowIs.cell h hi
theorem Own.free {w : World} {b N : Nat} {g : Nat → Int} (h : Own w b N g) (i : Nat) : w.frozen? ⟨b, i, none⟩ = false := World.rowIs.frozen h i
theorem Own.row {w : World} {b N : Nat} {g : Nat → Int} (h : Own w b N g) : Row w b N g := fun _ hi => h.cell hi
theorem Own.lt {w : World} {b N : Nat} {g : Nat → Int} (h : Own w b N g) : b < w.heap.size := World.rowIs.lt h
theorem own_made (w : World) (N : Nat) : Own (w.alloc (.cells (madeCells #[.int .u32 0] N) 200)) w.heap.size N (fun _ => 0) := World.rowIs_made w (.int .u32 0) N 200
theorem own_drew {w : World} {b N : Nat} {g : Nat → Int} (h : Own w b N g) (k : Nat) : Own (w.drewN k) b N g := h

/-- A slice's words where there are any. -/
def Has (w : World) (ao : Option Addr) (n : Nat) (f : Nat → Int) : Prop := 0 < n → ∃ b, ao = some ⟨b, 0, none⟩ ∧ b < w.heap.size ∧ Row w b n f
theorem Has.below {w w' : World} {ao : Option Addr} {n : Nat} {f : Nat → Int} (h : Has w ao n f) (k : Below w.heap.size w w') : Has w' ao n f := by
  intro hn
  obtain ⟨b, e, h1, h2⟩ := h hn
  exact ⟨b, e, Nat.lt_of_lt_of_le h1 k.size, h2.same (k.block b h1)⟩
theorem Has.below' {w w' : World} {ao : Option Addr} {n : Nat} {f : Nat → Int} (h : Has w ao n f) (k : Below w.heap.size w w') (hn : 0 < n) : ∃ b, ao = some ⟨b, 0, none⟩ ∧ b < w.heap.size ∧ Row w' b n f := by
  obtain ⟨b, e, h1, h2⟩ := h hn
  exact ⟨b, e, h1, h2.same (k.block b h1)⟩
theorem Sl.view {w : World} {v : Value} {n : Nat} {f : Nat → Int} (h : Sl w v n f) : ∃ ao cap, v = .slice ao n cap ∧ n ≤ cap ∧ cap ≤ 9223372036854775807 ∧ Has w ao n f := by
  rcases h with ⟨rfl, rfl⟩ | ⟨b, cap, rfl, h1, h2, h3, h4⟩
  · exact ⟨none, 0, rfl, Nat.le_refl _, by decide, fun h => absurd h (by omega)⟩
  · exact ⟨_, cap, rfl, h1, h2, fun _ => ⟨b, rfl, h3, h4⟩⟩

/-- Words with noughts above. -/
def padF (m : Nat) (f : Nat → Int) : Nat → Int := fun i => if i < m then f i else 0
theorem val_pad (f : Nat → Int) {m n : Nat} (h : m ≤ n) : val (padF m f) n = val f m := by
  have e1 : val (padF m f) n = val (padF m f) m := val_noughts h (fun i h1 _ => if_neg (show ¬ i < m by omega))
  have e2 : val (padF m f) m = val f m := val_congr (fun i hi => if_pos hi)
  rw [e1, e2]

/-- One word of a sum. -/
theorem add_step {fa fb g : Nat → Int} {k : Nat} {c t : Int} (h : val g k + c * 4294967296 ^ k = val fa k + val fb k) (ht : t = c + fa k + fb k) :
    val (upd g k (t % 4294967296)) (k + 1) + t / 4294967296 * 4294967296 ^ (k + 1) = val fa (k + 1) + val fb (k + 1) := by
  rw [val_upd]
  show _ = val fa k + fa k * 4294967296 ^ k + (val fb k + fb k * 4294967296 ^ k)
  have e : t * 4294967296 ^ k = c * 4294967296 ^ k + fa k * 4294967296 ^ k + fb k * 4294967296 ^ k := by rw [ht, Int.add_mul, Int.add_mul]
  have e2 : t % 4294967296 * 4294967296 ^ k + t / 4294967296 * 4294967296 ^ (k + 1) = t * 4294967296 ^ k := by
    rw [Int.pow_succ, Int.mul_comm (4294967296 ^ k) 4294967296, ← Int.mul_assoc, ← Int.add_mul]
    congr 1; omega
  omega

set_option maxHeartbeats 1000000 in
theorem add_core (ao bo : Option Addr) (n m capa capb : Nat) (fa fb : Nat → Int) (hmn : m ≤ n) (hn : n ≤ 549755813888) (w : World)
    (ha : Has w ao n fa) (hb : Has w bo m fb) (wa : Wd n fa) (wb : Wd m fb) :
    Calls Tryz.prog 137 #[.slice ao n capa, .slice bo m capb] w fun e w' =>
      ∃ (v : Value) (l : Nat) (f : Nat → Int), e = .returned v ∧ Sl w' v l f ∧ Wd l f ∧ Nm l f ∧ val f l = val fa n + val fb m ∧ l ≤ n + 1 ∧ Below w.heap.size w w' := by
  have hmk := fun wx => run_make_row' (P := Tryz.prog) 168 200 (.int .u32 0) 4 Tryz.underlying168 Tryz.infoU32 rfl .i64 .i64 (n + 1) (by omega) (by omega) wx
  rw [show ((n + 1 : Nat) : Int) = (n : Int) + 1 by omega] at hmk
  have HA := hide ha; have HB := hide hb; have WA := hide wa; have WB := hide wb
  clear ha hb wa wb
  go_enter Tryz.func137, Tryz.ntmps137
  go_wp2_with fail
  clear hmk
  go_loopw [6, 7] (fun cs is wr => ∃ (k : Nat) (c : Int) (g : Nat → Int), is = .int .i64 k ∧ cs = .int .u64 c ∧ k ≤ n ∧ 0 ≤ c ∧ c ≤ 1 ∧ Own wr w.heap.size (n + 1) g ∧ Wd k g ∧ val g k + c * 4294967296 ^ k = val fa k + val (padF m fb) k ∧ Below w.heap.size w wr)
    (fun _ is _ => n - (intOf is).toNat)
  case atStart => exact ⟨0, 0, _, rfl, rfl, Nat.zero_le _, Int.le_refl _, by decide, own_made w (n + 1), fun i hi => absurd hi (by omega), rfl, below_new w _⟩
  case round =>
    obtain ⟨k, c, g, rfl, rfl, hk, c0, c1, hO, hW, hv, hBl⟩ := hrel
    have HO := hide hO; have HW := hide hW; have HV := hide hv; have HBl := hide hBl
    clear hO hW hv hBl
    by_cases hkn : k < n
    · obtain ⟨ba, rfl, hba, hra⟩ := Has.below' (unhide HA) (unhide HBl) (by omega)
      have ca := hra k hkn
      have co := (unhide HO).cell (show k < n + 1 by omega)
      have fo := (unhide HO).free k
      obtain ⟨a0, a1⟩ := unhide WA k hkn
      clear hra
      by_cases hkm : k < m
      · obtain ⟨bb, rfl, hbb, hrb⟩ := Has.below' (unhide HB) (unhide HBl) (by omega)
        have cb := hrb k hkm
        obtain ⟨b0, b1⟩ := unhide WB k hkm
        have HS := hide (add_step (t := c + fa k + fb k) (unhide HV) (by show _ = c + fa k + (if k < m then fb k else 0); rw [if_pos hkm]))
        clear hrb
        go_wp2_with fail
        go_roundw
        case rel => exact ⟨k + 1, _, _, by go_num, rfl, by omega, by omega, by omega, (unhide HO).set k _, (unhide HW).upd (by omega) (by omega), unhide HS, (unhide HBl).setCell (Nat.le_refl _) _⟩
        case measure => simp [intOf]; omega
      · have HS := hide (add_step (t := c + fa k) (unhide HV) (by show _ = c + fa k + (if k < m then fb k else 0); rw [if_neg hkm]; omega))
        go_wp2_with fail
        go_roundw
        case rel => exact ⟨k + 1, _, _, by go_num, rfl, by omega, by omega, by omega, (unhide HO).set k _, (unhide HW).upd (by omega) (by omega), unhide HS, (unhide HBl).setCell (Nat.le_refl _) _⟩
        case measure => simp [intOf]; omega
    · have hkn2 : k = n := by omega
      subst hkn2
      have co := (unhide HO).cell (show k < k + 1 by omega)
      have fo := (unhide HO).free k
      have hr := ((unhide HO).set k c).row
      have hwd := (unhide HW).upd c0 (show c < 4294967296 by omega)
      have hval : val (upd g k c) (k + 1) = val fa k + val fb m := by rw [val_upd, unhide HV, val_pad fb hmn]
      have HR := hide hr; have HWD := hide hwd; have HVAL := hide hval
      have HOL := hide ((unhide HO).set k c).lt
      clear hr hwd hval
      go_wp2_with fail
      refine (trim_core w.heap.size (k + 1) (k + 1) (upd g k c) (Nat.le_refl _) (by omega) _ (unhide HR)).mono ?_
      rintro e w1 ⟨l, rfl, hl, hz, hnm, rfl⟩
      have F := hide (show Sl (wr.setCell ⟨w.heap.size, k, none⟩ (.int .u32 c)) (.slice (some ⟨w.heap.size, 0, none⟩) l (k + 1)) l (upd g k c) ∧ Wd l (upd g k c) ∧ Nm l (upd g k c) ∧ val (upd g k c) l = val fa k + val fb m ∧ l ≤ k + 1 ∧ Below w.heap.size w (wr.setCell ⟨w.heap.size, k, none⟩ (.int .u32 c)) from
        ⟨Or.inr ⟨_, _, rfl, hl, by omega, unhide HOL, (unhide HR).less hl⟩, (unhide HWD).less hl, hnm, by rw [← val_noughts hl hz]; exact unhide HVAL, hl, (unhide HBl).setCell (Nat.le_refl _) _⟩)
      clear hz hnm
      go_wp2_with fail
      go_ret
      exact ⟨_, l, _, rfl, unhide F⟩

set_option maxHeartbeats 1000000 in
theorem add_swap (ao bo : Option Addr) (n m capa capb : Nat) (fa fb : Nat → Int) (hmn : m < n) (hn : n ≤ 549755813888) (w : World)
    (ha : Has w ao n fa) (hb : Has w bo m fb) (wa : Wd n fa) (wb : Wd m fb) :
    Calls Tryz.prog 137 #[.slice bo m capb, .slice ao n capa] w fun e w' =>
      ∃ (v : Value) (l : Nat) (f : Nat → Int), e = .returned v ∧ Sl w' v l f ∧ Wd l f ∧ Nm l f ∧ val f l = val fa n + val fb m ∧ l ≤ n + 1 ∧ Below w.heap.size w w' := by
  have hmk := fun wx => run_make_row' (P := Tryz.prog) 168 200 (.int .u32 0) 4 Tryz.underlying168 Tryz.infoU32 rfl .i64 .i64 (n + 1) (by omega) (by omega) wx
  rw [show ((n + 1 : Nat) : Int) = (n : Int) + 1 by omega] at hmk
  have HA := hide ha; have HB := hide hb; have WA := hide wa; have WB := hide wb
  clear ha hb wa wb
  go_enter Tryz.func137, Tryz.ntmps137
  go_wp2_with fail
  clear hmk
  go_loopw [6, 7] (fun cs is wr => ∃ (k : Nat) (c : Int) (g : Nat → Int), is = .int .i64 k ∧ cs = .int .u64 c ∧ k ≤ n ∧ 0 ≤ c ∧ c ≤ 1 ∧ Own wr w.heap.size (n + 1) g ∧ Wd k g ∧ val g k + c * 4294967296 ^ k = val fa k + val (padF m fb) k ∧ Below w.heap.size w wr)
    (fun _ is _ => n - (intOf is).toNat)
  case atStart => exact ⟨0, 0, _, rfl, rfl, Nat.zero_le _, Int.le_refl _, by decide, own_made w (n + 1), fun i hi => absurd hi (by omega), rfl, below_new w _⟩
  case round =>
    obtain ⟨k, c, g, rfl, rfl, hk, c0, c1, hO, hW, hv, hBl⟩ := hrel
    have HO := hide hO; have HW := hide hW; have HV := hide hv; have HBl := hide hBl
    clear hO hW hv hBl
    by_cases hkn : k < n
    · obtain ⟨ba, rfl, hba, hra⟩ := Has.below' (unhide HA) (unhide HBl) (by omega)
      have ca := hra k hkn
      have co := (unhide HO).cell (show k < n + 1 by omega)
      have fo := (unhide HO).free k
      obtain ⟨a0, a1⟩ := unhide WA k hkn
      clear hra
      by_cases hkm : k < m
      · obtain ⟨bb, rfl, hbb, hrb⟩ := Has.below' (unhide HB) (unhide HBl) (by omega)
        have cb := hrb k hkm
        obtain ⟨b0, b1⟩ := unhide WB k hkm
        have HS := hide (add_step (t := c + fa k + fb k) (unhide HV) (by show _ = c + fa k + (if k < m then fb k else 0); rw [if_pos hkm]))
        clear hrb
        go_wp2_with fail
        go_roundw
        case rel => exact ⟨k + 1, _, _, by go_num, rfl, by omega, by omega, by omega, (unhide HO).set k _, (unhide HW).upd (by omega) (by omega), unhide HS, (unhide HBl).setCell (Nat.le_refl _) _⟩
        case measure => simp [intOf]; omega
      · have HS := hide (add_step (t := c + fa k) (unhide HV) (by show _ = c + fa k + (if k < m then fb k else 0); rw [if_neg hkm]; omega))
        go_wp2_with fail
        go_roundw
        case rel => exact ⟨k + 1, _, _, by go_num, rfl, by omega, by omega, by omega, (unhide HO).set k _, (unhide HW).upd (by omega) (by omega), unhide HS, (unhide HBl).setCell (Nat.le_refl _) _⟩
        case measure => simp [intOf]; omega
    · have hkn2 : k = n := by omega
      subst hkn2
      have co := (unhide HO).cell (show k < k + 1 by omega)
      have fo := (unhide HO).free k
      have hr := ((unhide HO).set k c).row
      have hwd := (unhide HW).upd c0 (show c < 4294967296 by omega)
      have hval : val (upd g k c) (k + 1) = val fa k + val fb m := by rw [val_upd, unhide HV, val_pad fb (Nat.le_of_lt hmn)]
      have HR := hide hr; have HWD := hide hwd; have HVAL := hide hval
      have HOL := hide ((unhide HO).set k c).lt
      clear hr hwd hval
      go_wp2_with fail
      refine (trim_core w.heap.size (k + 1) (k + 1) (upd g k c) (Nat.le_refl _) (by omega) _ (unhide HR)).mono ?_
      rintro e w1 ⟨l, rfl, hl, hz, hnm, rfl⟩
      have F := hide (show Sl (wr.setCell ⟨w.heap.size, k, none⟩ (.int .u32 c)) (.slice (some ⟨w.heap.size, 0, none⟩) l (k + 1)) l (upd g k c) ∧ Wd l (upd g k c) ∧ Nm l (upd g k c) ∧ val (upd g k c) l = val fa k + val fb m ∧ l ≤ k + 1 ∧ Below w.heap.size w (wr.setCell ⟨w.heap.size, k, none⟩ (.int .u32 c)) from
        ⟨Or.inr ⟨_, _, rfl, hl, by omega, unhide HOL, (unhide HR).less hl⟩, (unhide HWD).less hl, hnm, by rw [← val_noughts hl hz]; exact unhide HVAL, hl, (unhide HBl).setCell (Nat.le_refl _) _⟩)
      clear hz hnm
      go_wp2_with fail
      go_ret
      exact ⟨_, l, _, rfl, unhide F⟩

/-- The sum of two lists of words. -/
theorem add_words (va vb : Value) (n m : Nat) (fa fb : Nat → Int) (hn : n ≤ 549755813888) (hm : m ≤ 549755813888) (w : World) (ha : Sl w va n fa) (hb : Sl w vb m fb) (wa : Wd n fa) (wb : Wd m fb) :
    Calls Tryz.prog 137 #[va, vb] w fun e w' =>
      ∃ (v : Value) (l : Nat) (f : Nat → Int), e = .returned v ∧ Sl w' v l f ∧ Wd l f ∧ Nm l f ∧ val f l = val fa n + val fb m ∧ l ≤ max n m + 1 ∧ Below w.heap.size w w' := by
  obtain ⟨ao, capa, rfl, -, -, ha⟩ := ha.view
  obtain ⟨bo, capb, rfl, -, -, hb⟩ := hb.view
  rcases Nat.lt_or_ge n m with h | h
  · refine (add_swap bo ao m n capb capa fb fa h hm w hb ha wb wa).mono ?_
    rintro e w' ⟨v, l, f, h1, h2, h3, h4, h5, h6, h7⟩
    exact ⟨v, l, f, h1, h2, h3, h4, by rw [h5, Int.add_comm], by omega, h7⟩
  · refine (add_core ao bo n m capa capb fa fb h hn w ha hb wa wb).mono ?_
    rintro e w' ⟨v, l, f, h1, h2, h3, h4, h5, h6, h7⟩
    exact ⟨v, l, f, h1, h2, h3, h4, h5, by omega, h7⟩

end Go.Proofs.YthimcecbgpamdaaGreat
