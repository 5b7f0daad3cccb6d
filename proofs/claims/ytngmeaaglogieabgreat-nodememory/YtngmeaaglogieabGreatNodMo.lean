/- What the statement on a computer's memory walks over: messages with marked room, functions in a row, answers written over. -/
import Derived.Test.YtngmeaaglogieabGreatNear49
import Derived.Test.YtngmeaaglogieabGreatNear44
import Derived.Test.YtngmeaaglogieabGreatNear80
import Derived.Test.YtngmeaaglogieabGreatNear79
namespace Go.Proofs.YtngmeaaglogieabGreat
open Go.RowKit

/-- Truth values made, all false, with room behind them. -/
theorem wp_makeT (w : World) {o : Oper} {a : Act} {K : Act → World → Prop} {Q : Exit → Act → World → Prop} (l c : Operand) (ho : o.op = .makeSlice 33 l c) (n m : Nat) (hl : a.eval l = .int .i64 (n : Int)) (hc : a.eval c = .int .i64 (m : Int)) (hnm : n ≤ m) (hn : m ≤ 281474976710656)
    (h : ∀ w', w'.heap.size = w.heap.size + 1 → Vh 4 w' w.heap.size n m (fun _ => .bool false) → Below w.heap.size w w' → K (a.put o.dst (.slice (some ⟨w.heap.size, 0, none⟩) n m)) w') : WpI Tryz.prog o a w K Q := by
  obtain ⟨i0, hi, hz0, hz1, hz2⟩ := info_parts infoBool
  have hrun := run_make (P := Tryz.prog) w 33 4 i0 (.bool false) Tryz.underlying33 hi hz0 .i64 .i64 n m (by omega) (by omega) (by rw [hz2]; omega) (by omega)
  rw [hz1] at hrun
  simp only [Int.toNat_natCast, Nat.mul_one] at hrun
  have hh := h _ (al_size _ _) ((Vh.made w 4 (.bool false) m (by unfold maxLen; omega)).less hnm) (al_below _ _)
  refine ⟨?_⟩
  unfold Oper.wp execOp
  simp only [ho, hl, hc, hrun, Sem.run_bind, Sem.run_pure, Result.andThen_ok]
  exact hh
/-- Messages whose numbers have two marks behind them. -/
def RmM (w : World) (M : List Lm) : Prop := ∀ c, c ∈ M → ∃ b, c.ao = some ⟨b, 0, none⟩ ∧ c.cap = c.m.L.length + 2 ∧ Nh w b (c.m.L.length + 2) (c.m.L.length + 2) (rmF (gL c.m.L) c.m.L.length)
theorem RmM.below {w w' : World} {M : List Lm} (h : RmM w M) (k : Below w.heap.size w w') : RmM w' M := fun c hc => by
  obtain ⟨b, h1, h2, h3⟩ := h c hc
  exact ⟨b, h1, h2, h3.below k⟩
theorem nh_grown {w w' : World} {b N cap : Nat} {g : Nat → Int} {r : Option Nat} (h : Nh w b N cap g) (k : w.grownBy w' r) (hr : r ≠ some b) : Nh w' b N cap g := h.same (k.block b h.lt (fun e => hr e.symm))
theorem RmM.grown {w w' : World} {M L : List Lm} {B : Nat} {v : Value} (h : RmM w M) (ho : OwnM w B v L) (k : w.grownBy w' v.ownBlock) : RmM w' M := fun c hc => by
  obtain ⟨b, h1, h2, h3⟩ := h c hc
  refine ⟨b, h1, h2, nh_grown h3 k (fun e => ?_)⟩
  obtain ⟨u, hu⟩ := own_type ho.1 e
  obtain ⟨cur, hb, _⟩ := h3
  rw [hb] at hu
  cases hu
theorem rm_own {w : World} {B b : Nat} {m : Ms} (h : Nh w b (m.L.length + 2) (m.L.length + 2) (rmF (gL m.L) m.L.length)) (hb : B ≤ b) : OwnV w B ⟨m, some ⟨b, 0, none⟩, m.L.length + 2⟩ := by
  have h1 : Vh 3 w b m.L.length (m.L.length + 2) (iF (gL m.L)) := by
    obtain ⟨cur, h1, h2, h3, h4, h5⟩ := h
    refine ⟨cur, h1, h2, by omega, h4, fun i hi => ?_⟩
    rw [h5 i (by omega)]
    unfold rmF iF
    rw [if_pos hi]
  exact h1.owns hb
/-- The four phases that hear, in a row. -/
def fnN (i : Nat) : Nat := if i = 0 then 5 else if i = 1 then 6 else if i = 2 then 7 else 8
def fnV (i : Nat) : Value := .func (.func (fnN i)) #[] #[]
theorem oneFn : OneC Tryz.prog 43 := ⟨fun w => by go_simp, fun w => by go_simp⟩
theorem wp_rowF (w : World) {o : Oper} {a : Act} {K : Act → World → Prop} {Q : Exit → Act → World → Prop} (ho : o.op = .buildSlice 44 4 #[(0, .func 5), (1, .func 6), (2, .func 7), (3, .func 8)])
    (h : ∀ w', Vh 43 w' w.heap.size 4 4 fnV → Below w.heap.size w w' → w'.heap.size = w.heap.size + 1 → K (a.put o.dst (.slice (some ⟨w.heap.size, 0, none⟩) 4 4)) w') : WpI Tryz.prog o a w K Q := by
  have hh := h (w.alloc (.cells #[fnV 0, fnV 1, fnV 2, fnV 3] 43)) (Vh.of_row fnV 4 (by decide) (by show (w.heap.push _)[w.heap.size]? = _; rw [Array.getElem?_push_size]; rfl)) (al_below _ _) (al_size _ _)
  have e : (execOp a.eval o).run Tryz.prog w = .ok (.value (.slice (some ⟨w.heap.size, 0, none⟩) 4 4)) (w.alloc (.cells #[fnV 0, fnV 1, fnV 2, fnV 3] 43)) := by
    unfold execOp
    rw [ho]
    go_simp
    rfl
  refine ⟨?_⟩
  unfold Oper.wp
  rw [e]
  exact hh
section
variable {f : Operand → Value} {o : Oper}
theorem run_lenF (x : Operand) (ho : o.op = .call { callee := .builtin .len, args := #[x], argTypes := #[44] }) {ao : Option Addr} {n c : Nat} (hx : f x = .slice ao n c) (w : World) : (execOp f o).run Tryz.prog w = .ok (.value (.int .i64 ((n : Nat) : Int))) w := by
  unfold execOp
  rw [ho]
  dsimp only
  go_simp
theorem run_ixF (x y : Operand) (ho : o.op = .indexAddr 44 x y) {b off n cap i : Nat} {z : Int} (hx : f x = .slice (some ⟨b, off, none⟩) n cap) (hy : f y = .int .i64 z) (hz : z = (i : Int)) (hi : i < n) (w : World) :
    (execOp f o).run Tryz.prog w = .ok (.value (.pointer (some ⟨b, off + i, none⟩))) w := by
  subst hz
  have hi2 : (i : Int) < n := by omega
  unfold execOp
  rw [ho]
  dsimp only
  rw [hx, hy]
  go_simp
theorem run_neqT {b : Bool} (x y : Operand) (ho : o.op = .binOp .neq 4 x y 4) {u v : Bool} (hx : f x = .bool u) (hy : f y = .bool v) (hb : (u != v) = b) (w : World) : (execOp f o).run Tryz.prog w = .ok (.value (.bool b)) w := by
  subst hb
  unfold execOp
  rw [ho]
  dsimp only
  rw [hx, hy]
  cases u <;> cases v <;> (change _ = _; kernel_rfl)
theorem run_bldTn0 (ho : o.op = .build 23 #[]) (w : World) : (execOp f o).run Tryz.prog w = .ok (.value (agV (ntnF ⟨0, 0, 0, 0⟩) 0 4)) w := by
  unfold execOp
  rw [ho]
  go_simp
  rfl
theorem run_ixSt0 (x y : Operand) (ho : o.op = .indexAddr 26 x y) {b off : Nat} (hx : f x = .pointer (some ⟨b, off, none⟩)) (hy : f y = .int .i64 0) (w : World) :
    (execOp f o).run Tryz.prog w = .ok (.value (.pointer (some ⟨b, off, none⟩))) w := by
  unfold execOp
  rw [ho]
  dsimp only
  rw [hx, hy]
  go_simp
end
/-- A function out of that row called. -/
theorem wp_callF (w : World) {o : Oper} {a : Act} {K : Act → World → Prop} {Q : Exit → Act → World → Prop} (c x y : Operand) (T : Array TypeId) (ho : o.op = .call { callee := .value c, args := #[x, y], argTypes := T }) (i : Nat) {u v : Value} (hc : a.eval c = fnV i) (hx : a.eval x = u) (hy : a.eval y = v) (hf : (callFunc (fnN i) #[u, v]).run Tryz.prog w = .ok (.enter (fnN i) #[u, v]) w) {R : Ending → World → Prop} (hk : Calls Tryz.prog (fnN i) #[u, v] w R)
    (h : ∀ e w', R e w' → ∃ r, e = .returned r ∧ K (a.put o.dst r) w') : WpI Tryz.prog o a w K Q := by
  refine ⟨?_⟩
  have e : (execOp a.eval o).run Tryz.prog w = .ok (.enter (fnN i) #[u, v]) w := by
    unfold execOp
    rw [ho]
    unfold fnV at hc
    generalize fnN i = q at *
    simp only [resolve, invoke, Sem.run_bind, List.map_toArray, List.map_cons, List.map_nil, hc, hx, hy]
    go_simp
  unfold Oper.wp
  rw [e, Oper.upon_enter]
  refine hk.mono ?_
  intro e w' hr
  obtain ⟨r, rfl, hh⟩ := h e w' hr
  exact hh
theorem enter_fn (i : Nat) (x y : Value) (w : World) : (callFunc (fnN i) #[x, y]).run Tryz.prog w = .ok (.enter (fnN i) #[x, y]) w := by
  unfold fnN
  split
  · go_simp
  · split
    · go_simp
    · split
      · go_simp
      · go_simp
/-- What all four keep to. -/
def PhAny (fn : Nat) : Prop := ∀ (n : Nd) (ao : Option Addr) (c : Nat) (mo : Option Addr) (mc : Nat) (L : List Lm) (w : World), NdOK n → AgRd w n ao c → MRd w mo L → L.length ≤ 140737488351232 → L.length ≤ mc → (∀ m, m ∈ L → ∀ i, R64 (gL m.m.L i)) →
  Calls Tryz.prog fn #[ndV n (.slice ao n.vA.length c), .slice mo L.length mc] w fun e w' => ∃ (N : Nd) (M : Ms) (a' : Option Addr) (c' : Nat) (a2 : Option Addr) (c2 : Nat), e = .returned (.tuple #[ndV N (.slice a' N.vA.length c'), lsV M (.slice a2 M.L.length c2)]) ∧ AgNew w.heap.size w' N a' c' ∧ VaNew w.heap.size w' M a2 c2 ∧ M.L.length ≤ 36 ∧ N.vA.length ≤ 140737488351232 ∧ Below w.heap.size w w'
theorem PhOK.any {N : Nd → List Ms → Nd} {M : Nd → List Ms → Ms} {fn : Nat} (h : PhOK N M fn) (hM : ∀ n l, (M n l).L.length ≤ 36) (hN : ∀ n l, n.vA.length ≤ 140737488351232 → (N n l).vA.length ≤ 140737488351232) : PhAny fn := by
  intro n ao c mo mc L w h1 h2 h3 h4 h5 h6
  refine (h n ao c mo mc L w h1 h2 h3 h4 h5 h6).mono ?_
  rintro e w' ⟨a', c', a2, c2, he, g1, g2, g3⟩
  exact ⟨_, _, a', c', a2, c2, he, g1, g2, hM _ _, hN _ _ h1.vA, g3⟩
theorem fn_any (hr : PhOK relN relM 5) (hdc : PhOK decN decM 6) (hpa : PhOK pasN pasM 7) (hju : PhOK judN judM 8) (i : Nat) : PhAny (fnN i) := by
  unfold fnN
  split
  · refine hr.any (fun n l => ?_) (fun n l h => ?_)
    · unfold relM
      split
      · exact Nat.zero_le _
      · exact (show 12 ≤ 36 by decide)
    · unfold relN
      split <;> exact h
  · split
    · refine hdc.any (fun n l => ?_) (fun n l h => ?_)
      · unfold decM
        split
        · exact Nat.zero_le _
        · exact (show 1 ≤ 36 by decide)
      · unfold decN
        split <;> exact h
    · split
      · refine hpa.any (fun n l => ?_) (fun n l h => ?_)
        · unfold pasM
          split
          · exact Nat.zero_le _
          · exact (show 4 ≤ 36 by decide)
        · unfold pasN
          split <;> exact h
      · refine hju.any (fun n l => ?_) (fun n l h => ?_)
        · unfold judM
          split
          · exact Nat.zero_le _
          · exact (show 24 ≤ 36 by decide)
        · unfold judN
          split
          · exact h
          · exact (show 4 ≤ 140737488351232 by decide)
/-- All blocks below B are as they were, and those of other things than numbers. -/
structure KO (B : Nat) (w w' : World) : Prop where
  os : w'.os = w.os
  tape : w'.tape = w.tape
  output : w'.output = w.output
  size : w.heap.size ≤ w'.heap.size
  block : ∀ k, k < w.heap.size → (k < B ∨ ∀ cur t q, w.heap[k]? = some (.cells cur t q) → t ≠ 3) → w'.heap[k]? = w.heap[k]?
theorem KO.below {B : Nat} {w w' : World} (h : KO B w w') (hB : B ≤ w.heap.size) : Below B w w' := ⟨h.os, h.tape, h.output, h.size, fun k hk => h.block k (by omega) (Or.inl hk)⟩
theorem Vh.ko {t : TypeId} {B b N cap : Nat} {w w' : World} {g : Nat → Value} (h : Vh t w b N cap g) (k : KO B w w') (ht : t ≠ 3) : Vh t w' b N cap g := by
  obtain ⟨cur, h1, rest⟩ := h
  refine ⟨cur, ?_, rest⟩
  rw [k.block b (lt_of_block h1) (Or.inr (fun cur2 t2 q2 e => ?_))]
  · exact h1
  · rw [h1] at e
    cases e
    exact ht
theorem rw_ko {t : TypeId} {B C s n : Nat} {w w' : World} {v : Value} {xs : List Value} (h : w.ownsRow C t s v n xs) (k : KO B w w') (ht : t ≠ 3) : w'.ownsRow C t s v n xs := by
  refine ⟨h.1, ?_⟩
  rcases h.2 with hn | ⟨g, cap, cur, rfl, hb, hgg, rest⟩
  · exact .inl hn
  · refine .inr ⟨g, cap, cur, rfl, hb, ?_, rest⟩
    rw [k.block g (lt_of_block hgg) (Or.inr (fun cur2 t2 q2 e => ?_))]
    · exact hgg
    · rw [hgg] at e
      cases e
      exact ht
theorem enter_scr (x : Value) (w : World) : (callFunc 9 #[x]).run Tryz.prog w = .ok (.enter 9 #[x]) w := by go_simp
theorem scribble_new (B : Nat) (ao : Option Addr) (l c : Nat) (f : Nat → Int) (w : World) (h : w.ownsRow B 3 1 (.slice ao l c) l (rowV (iF f) l)) (hl : l ≤ 36) :
    Calls Tryz.prog 9 #[.slice ao l c] w fun e w' => e = .returned (.tuple #[]) ∧ KO B w w' := by
  rcases h.2 with ⟨hn, h0⟩ | ⟨r, cap, cur, hv, hb, hh, hc, hm, hsz, hcur⟩
  · cases hn
    refine (scribbleO_any w.heap.size w.heap.size none 0 0 w (Or.inl ⟨rfl, rfl, rfl⟩) (Nat.le_refl _)).mono ?_
    rintro e w' ⟨rfl, k⟩
    exact ⟨rfl, k.os, k.tape, k.output, k.size, fun i hi _ => k.block i hi (Or.inl hi)⟩
  · cases hv
    have hN : Nh w r l c f := by
      refine ⟨cur, hh, by simpa using hsz, hc, hm, fun i hi => ?_⟩
      have := rowV_at (iF f) hi
      rw [← hcur, List.getElem?_take, if_pos (by omega), Array.getElem?_toList] at this
      exact this
    have hlt := lt_of_block hh
    refine (scribbleO_any r (r + 1) _ l c w (Or.inr ⟨r, f, rfl, Nat.le_refl _, Nat.lt_succ_self _, hN, hl⟩) (by omega)).mono ?_
    rintro e w' ⟨rfl, k⟩
    refine ⟨rfl, k.os, k.tape, k.output, k.size, fun i hi h2 => k.block i hi ?_⟩
    rcases h2 with h2 | h2
    · omega
    · by_cases e : i = r
      · subst e
        exact absurd rfl (h2 _ _ _ hh)
      · omega
/-- One truth value turned. -/
theorem tF_turn (g : Nat → Bool) (i n : Nat) : ∀ j, j < n → stW (tF g) i (.bool (!g i)) j = tF (fun t => if t = i then !g i else g t) j := by
  intro j _
  by_cases e : j = i
  · subst e
    unfold stW tF
    simp
  · rw [stW_other _ _ e]
    unfold tF
    simp [e]

end Go.Proofs.YtngmeaaglogieabGreat
