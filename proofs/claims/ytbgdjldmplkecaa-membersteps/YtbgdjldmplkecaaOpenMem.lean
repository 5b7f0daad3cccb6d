/- Rolls, verdicts, truth values and fours of them among a statement's arguments, opened. -/
import Derived.Test.YtbgdjldmplkecaaOpenB4
import Derived.Test.YtbgdjldmplkecaaMemOK
import Derived.Deep.Slices
import Derived.Deep.Strs
import Derived.Deep.Grids
namespace Go.Proofs.Ytbgdjldmplkecaa
open Go.ChangeShapes Go.WideShapes Go.ChangeAt Go.RowKit Go.Joins

theorem cellsRoll : Try.prog.cellsOf 25 = 12 := by kernel_rfl
theorem cellsI4 : Try.prog.cellsOf 23 = 4 := by kernel_rfl
theorem array_12 {α : Type} {cs : Array α} (h : cs.size = 12) : ∃ c0 c1 c2 c3 c4 c5 c6 c7 c8 c9 d0 d1, cs = #[c0, c1, c2, c3, c4, c5, c6, c7, c8, c9, d0, d1] := by
  obtain ⟨l⟩ := cs
  match l, h with
  | [c0, c1, c2, c3, c4, c5, c6, c7, c8, c9, d0, d1], _ => exact ⟨c0, c1, c2, c3, c4, c5, c6, c7, c8, c9, d0, d1, rfl⟩
section
variable {H : Type} {enc : TypeId × Value → H} {w : World} {base : Nat} {spare : Nat → Bool} {held : Bool}
theorem open_b4 {fuel : Nat} {c0 c1 c2 c3 : Value} {x : DataW H × List MemPlace} (hf : DataW.trod enc Try.prog w base spare held fuel 22 [c0, c1, c2, c3] = some x) :
    ∃ x0 x1 x2 x3, c0 = .bool x0 ∧ c1 = .bool x1 ∧ c2 = .bool x2 ∧ c3 = .bool x3 := by
  obtain ⟨y0, y1, y2, y3, m, _, h0, h1, h2, h3⟩ := trod_array4 Try.underlying22 cellsBool1 hf
  obtain ⟨x0, e0, _⟩ := DataW.trod_bool Try.underlying4 h0
  obtain ⟨x1, e1, _⟩ := DataW.trod_bool Try.underlying4 h1
  obtain ⟨x2, e2, _⟩ := DataW.trod_bool Try.underlying4 h2
  obtain ⟨x3, e3, _⟩ := DataW.trod_bool Try.underlying4 h3
  simp at e0 e1 e2 e3
  exact ⟨x0, x1, x2, x3, e0, e1, e2, e3⟩
theorem open_i4 {fuel : Nat} {c0 c1 c2 c3 : Value} {x : DataW H × List MemPlace} (hf : DataW.trod enc Try.prog w base spare held fuel 23 [c0, c1, c2, c3] = some x) :
    ∃ x0 x1 x2 x3, (c0 = .int .i64 x0 ∧ c1 = .int .i64 x1 ∧ c2 = .int .i64 x2 ∧ c3 = .int .i64 x3) ∧ R64 x0 ∧ R64 x1 ∧ R64 x2 ∧ R64 x3 := by
  obtain ⟨y0, y1, y2, y3, m, _, h0, h1, h2, h3⟩ := trod_array4 Try.underlying23 cellsInt1 hf
  obtain ⟨x0, e0, _, w0⟩ := DataW.trod_int Try.underlying3 h0
  obtain ⟨x1, e1, _, w1⟩ := DataW.trod_int Try.underlying3 h1
  obtain ⟨x2, e2, _, w2⟩ := DataW.trod_int Try.underlying3 h2
  obtain ⟨x3, e3, _, w3⟩ := DataW.trod_int Try.underlying3 h3
  simp at e0 e1 e2 e3
  exact ⟨x0, x1, x2, x3, ⟨e0, e1, e2, e3⟩, R64.of_wf w0, R64.of_wf w1, R64.of_wf w2, R64.of_wf w3⟩
set_option maxRecDepth 100000 in
theorem open_roll {r : Reach} {b0 : Nat} {v : Value} {d : DataW H} {p : List MemPlace} (hv : Value.okWide Try.prog w r b0 25 v) (h : DataW.Trod enc Try.prog w base spare held 25 v d p) :
    ∃ s : Rl, v = rollV s ∧ ∀ i, i < 4 → R64 (s.M i) ∧ R64 (s.J i) := by
  obtain ⟨cs, rfl, hsz⟩ := okWide_struct Try.underlying25 hv
  obtain ⟨c0, c1, c2, c3, c4, c5, c6, c7, c8, c9, d0, d1, rfl⟩ := array_12 (hsz.trans cellsRoll)
  obtain ⟨fuel, hf⟩ := h
  have hf' : DataW.trod enc Try.prog w base spare held fuel 25 [c0, c1, c2, c3, c4, c5, c6, c7, c8, c9, d0, d1] = some (d, p) := hf
  obtain ⟨y0, y1, y2, m, _, _, h0, h1, h2⟩ := Go.Deep.trod_struct3 Try.underlying25 hf'
  rw [cellsB4] at h0
  rw [cellsI4] at h1 h2
  obtain ⟨a0, a1, a2, a3, rfl, rfl, rfl, rfl⟩ := open_b4 h0
  obtain ⟨m0, m1, m2, m3, ⟨rfl, rfl, rfl, rfl⟩, p0, p1, p2, p3⟩ := open_i4 h1
  obtain ⟨j0, j1, j2, j3, ⟨rfl, rfl, rfl, rfl⟩, q0, q1, q2, q3⟩ := open_i4 h2
  exact ⟨⟨fnB a0 a1 a2 a3, fnF m0 m1 m2 m3, fnF j0 j1 j2 j3⟩, rfl, fun i _ => ⟨fnF_R p0 p1 p2 p3 i, fnF_R q0 q1 q2 q3 i⟩⟩
end
/-- Truth values that were handed in. -/
def ArgT (w : World) (ao : Option Addr) (len cap : Nat) (B : Nat → Bool) : Prop := Sr w ao len cap (tF B) ∧ len ≤ 140737488351232 ∧ len ≤ cap
theorem bytesBool : Try.prog.bytesOf 4 = 1 := by kernel_rfl
section
variable {H : Type} {enc : TypeId × Value → H} {w : World} {base : Nat} {held : Bool}
set_option maxRecDepth 100000 in
theorem open_trow {fuel : Nat} {v : Value} {x : DataW H × List MemPlace} (h : DataW.trod enc Try.prog w base (fun _ => true) held fuel 29 [v] = some x) (hsz : ∀ n ∈ x.1.weights Try.prog 29, n ≤ reachBytes) :
    ∃ ao len cap B, v = .slice ao len cap ∧ ArgT w ao len cap B := by
  rcases Go.Deep.open_bools Try.underlying29 Try.underlying4 cellsBool1 h with ⟨hcs, _⟩ | ⟨a, len, cap, B, hcs, _, hl, _, hx, hcell⟩
  · simp at hcs
    exact ⟨none, 0, 0, fun _ => false, hcs, Or.inl ⟨rfl, rfl, rfl⟩, by decide, Nat.le_refl _⟩
  · simp at hcs
    have hb : cap * 1 ≤ reachBytes := by
      refine hsz _ ?_
      rw [hx]
      simp [Go.Deep.boolRow, DataW.weights, Try.underlying29, bytesBool]
      left; omega
    exact ⟨some a, len, cap, B, hcs, Or.inr ⟨a, rfl, fun i hi => hcell i (by omega)⟩, by unfold reachBytes at hb; omega, hl⟩
set_option maxRecDepth 100000 in
theorem open_trowArg {r : Reach} {b0 : Nat} {v : Value} {d : DataW H} {p : List MemPlace} (hv : Value.okWide Try.prog w r b0 29 v) (h : DataW.Trod enc Try.prog w base (fun _ => true) held 29 v d p) (hsz : ∀ n ∈ d.weights Try.prog 29, n ≤ reachBytes) :
    ∃ ao len cap B, v = .slice ao len cap ∧ ArgT w ao len cap B := by
  obtain ⟨ao, len, cap, rfl⟩ := okWide_slice Try.underlying29 hv
  obtain ⟨fuel, hf⟩ := h
  have hf' : DataW.trod enc Try.prog w base (fun _ => true) held fuel 29 [.slice ao len cap] = some (d, p) := hf
  exact open_trow hf' hsz
theorem cellsVd : Try.prog.cellsOf 31 = 3 := by kernel_rfl
set_option maxRecDepth 100000 in
theorem open_vdArg {r : Reach} {b0 : Nat} {v : Value} {d : DataW H} {p : List MemPlace} (hv : Value.okWide Try.prog w r b0 31 v) (h : DataW.Trod enc Try.prog w base (fun _ => true) held 31 v d p) (hsz : ∀ n ∈ d.weights Try.prog 31, n ≤ reachBytes) :
    ∃ X S ao len cap B, v = vdV X S (.slice ao len cap) ∧ R64 X ∧ ArgT w ao len cap B := by
  obtain ⟨cs, rfl, hsz2⟩ := okWide_struct Try.underlying31 hv
  obtain ⟨c0, c1, c2, rfl⟩ := array_three (hsz2.trans cellsVd)
  obtain ⟨fuel, hf⟩ := h
  have hf' : DataW.trod enc Try.prog w base (fun _ => true) held fuel 31 [c0, c1, c2] = some (d, p) := hf
  obtain ⟨y0, y1, y2, m, e, _, h0, h1, h2⟩ := Go.Deep.trod_struct3 Try.underlying31 hf'
  have k0 : DataW.trod enc Try.prog w base (fun _ => true) held m 3 [c0] = some y0 := by rw [cellsInt1] at h0; exact h0
  have k1 : DataW.trod enc Try.prog w base (fun _ => true) held m 4 [c1] = some y1 := by rw [cellsBool1] at h1; exact h1
  have k2 : DataW.trod enc Try.prog w base (fun _ => true) held m 29 [c2] = some y2 := by rw [show Try.prog.cellsOf 29 = 1 by kernel_rfl] at h2; exact h2
  obtain ⟨X, e0, _, wX⟩ := DataW.trod_int Try.underlying3 k0
  obtain ⟨S, e1, _⟩ := DataW.trod_bool Try.underlying4 k1
  simp at e0 e1
  subst e0 e1
  simp only [Prod.mk.injEq] at e
  obtain ⟨ao, len, cap, B, rfl, ha⟩ := open_trow k2 (fun n hn => hsz n (by
    rw [e.1]
    simp only [DataW.weights, Try.underlying31, List.map, DataW.weightsEach]
    simp only [List.mem_append]
    exact Or.inr (Or.inr (Or.inl hn))))
  exact ⟨X, S, ao, len, cap, B, rfl, R64.of_wf wX, ha⟩
/-- Fours of truth values that were handed in. -/
def ArgQ (w : World) (ao : Option Addr) (len : Nat) (S : Nat → Nat → Bool) : Prop := 0 < len → ∃ b o, ao = some ⟨b, o, none⟩ ∧ ∀ i k, i < len → k < 4 → w.cell? ⟨b, o + i * 4 + k, none⟩ = some (.bool (S i k))
theorem ArgQ.below {w w' : World} {ao : Option Addr} {len : Nat} {S : Nat → Nat → Bool} (h : ArgQ w ao len S) (k : Below w.heap.size w w') : ArgQ w' ao len S := fun hl => by
  obtain ⟨b, o, e, hc⟩ := h hl
  exact ⟨b, o, e, fun i j hi hj => at_below (hc i j hi hj) k⟩
set_option maxRecDepth 100000 in
theorem open_quads {r : Reach} {b0 : Nat} {v : Value} {d : DataW H} {p : List MemPlace} (hv : Value.okWide Try.prog w r b0 39 v) (h : DataW.Trod enc Try.prog w base (fun _ => true) held 39 v d p) :
    ∃ ao len cap S, v = .slice ao len cap ∧ ArgQ w ao len S ∧ len ≤ maxLen := by
  obtain ⟨ao, len, cap, rfl⟩ := okWide_slice Try.underlying39 hv
  obtain ⟨fuel, hf⟩ := h
  have hf' : DataW.trod enc Try.prog w base (fun _ => true) held fuel 39 [.slice ao len cap] = some (d, p) := hf
  rcases Go.Deep.open_slice Try.underlying39 hf' with ⟨hcs, _⟩ | ⟨a, l, c, m, n, D, Pl, hcs, _, hl, hm, hmm, _, hx⟩
  · simp at hcs
    obtain ⟨rfl, rfl, rfl⟩ := hcs
    exact ⟨none, 0, 0, fun _ _ => false, rfl, fun h => absurd h (by omega), by decide⟩
  · simp at hcs
    obtain ⟨rfl, rfl, rfl⟩ := hcs
    simp only [if_true] at hmm
    subst hmm
    have each : ∀ i, i < m → ∃ s : Nat → Bool, ∀ k, k < 4 → w.cell? ((a.add (i * 4)).add k) = some (.bool (s k)) := fun i hi => by
      obtain ⟨cs', h1, h2⟩ := hx i hi
      rw [cellsB4] at h1
      obtain ⟨_, hlen, hc⟩ := World.cells?_some h1
      match cs', hlen with
      | [c0, c1, c2, c3], _ =>
        obtain ⟨x0, x1, x2, x3, rfl, rfl, rfl, rfl⟩ := open_b4 h2
        refine ⟨fnB x0 x1 x2 x3, fun k hk => ?_⟩
        rw [hc k hk]
        have : k = 0 ∨ k = 1 ∨ k = 2 ∨ k = 3 := by omega
        rcases this with rfl | rfl | rfl | rfl <;> rfl
    refine ⟨some a, len, m, fun i => if hi : i < m then (each i hi).choose else fun _ => false, rfl, fun hl0 => ?_, Nat.le_trans hl hm⟩
    obtain ⟨b, o, spot⟩ := a
    have hs : spot = none := by
      have := (each 0 (by omega)).choose_spec 0 (by omega)
      simpa [Addr.add] using World.cell?_spot this
    subst hs
    refine ⟨b, o, rfl, fun i k hi hk => ?_⟩
    have ea : ((⟨b, o, none⟩ : Addr).add (i * 4)).add k = ⟨b, o + i * 4 + k, none⟩ := by rw [Addr.add_lit, Addr.add_lit]
    rw [← ea]
    refine ((each i (by omega)).choose_spec k hk).trans ?_
    have hi' : i < m := by omega
    simp only [hi', dite_true]
end

end Go.Proofs.Ytbgdjldmplkecaa
