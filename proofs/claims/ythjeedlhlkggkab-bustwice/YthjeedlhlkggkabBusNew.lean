/- Parcels of one's own while other blocks are written; whole buses read and written, their frame a variable; deeds. -/
import Derived.Test.YthjeedlhlkggkabBusOps
namespace Go.Proofs.Ythjeedlhlkggkab
open Go.RowKit

section
variable {w w' : World} {B z cap n size : Nat} {t : TypeId} {ao : Option Addr} {L : List Lp}
theorem Room.kept (h : Room w B t size ao cap) (k : Kept z w w') (hz : z < B) : Room w' B t size ao cap := by
  rcases h with h | ⟨b, o, cur, e, hb, hg, hc⟩
  · exact Or.inl h
  · exact Or.inr ⟨b, o, cur, e, hb, (k.block b (lt_of_block hg) (by omega)).trans hg, hc⟩
theorem Sr.room {f : Nat → Value} (h : Sr w ao n cap f) (r : Room w B t size ao cap) (hn : n ≤ cap) (k : Kept z w w') (hz : z < B) : Sr w' ao n cap f := by
  rcases h with h | ⟨x, rfl, hc⟩
  · exact Or.inl h
  · refine Or.inr ⟨x, rfl, fun i hi => ?_⟩
    rcases r with r | ⟨b, o, cur, e, hb, _⟩
    · omega
    · cases e
      have := hc i hi
      rw [Addr.add_lit] at this ⊢
      exact at_kept this k (by show b ≠ z; omega)
theorem QRd.room (h : QRd w ao L) (r : Room w B t size ao cap) (hn : L.length ≤ cap) (k : Kept z w w') (hz : z < B) : QRd w' ao L := fun hl => by
  obtain ⟨b, o, e, hc⟩ := h hl
  refine ⟨b, o, e, fun i c hi => ?_⟩
  rcases r with r | ⟨b2, o2, cur, e2, hb, _⟩
  · omega
  · rw [e] at e2; cases e2
    exact (hc i c hi).same (k.block b (hc i c hi).lt (by omega))
theorem BNew.kept (h : BNew B w ao cap L) (k : Kept z w w') (hz : z < B) : BNew B w' ao cap L :=
  ⟨⟨h.1.1.room h.2.1 h.1.2.1 k hz, h.1.2.1, fun c hc => ⟨(h.1.2.2 c hc).1.room (h.2.2 c hc) (h.1.2.2 c hc).2 k hz, (h.1.2.2 c hc).2⟩⟩, h.2.1.kept k hz, fun c hc => (h.2.2 c hc).kept k hz⟩
end
theorem bnew_nil (w : World) (B : Nat) : BNew B w none 0 [] := ⟨BRd.nil _ _ _, Or.inl rfl, fun _ h => absurd h (by simp)⟩
theorem run_lodU {f : Operand → Value} {o : Oper} (x : Operand) (ho : o.op = .load 25 x) {b : Nat} {N S : Int} {ao : Option Addr} {n c : Nat} (hx : f x = .pointer (some ⟨b, 0, none⟩)) {w : World} (h : BuAt w b N S (.slice ao n c)) :
    (execOp f o).run Try.prog w = .ok (.value (busV N S (.slice ao n c))) w := by
  have c0 := h.cell0; have c1 := h.cell1; have c2 := h.cell2
  unfold execOp
  rw [ho]
  dsimp only
  rw [hx]
  unfold busV
  go_simp
theorem wp_storeU (w : World) {o : Oper} {a : Act} {K : Act → World → Prop} {Q : Exit → Act → World → Prop} (x y : Operand) (ho : o.op = .store 25 x y) {b : Nat} {N S N' S' : Int} {r : Value} {ao : Option Addr} {n c : Nat} (hx : a.eval x = .pointer (some ⟨b, 0, none⟩)) (hy : a.eval y = busV N' S' (.slice ao n c)) (hm : BuAt w b N S r) (hd : o.dst = none)
    (h : ∀ w', BuAt w' b N' S' (.slice ao n c) → Kept b w w' → w'.heap.size = w.heap.size → K a w') : WpI Try.prog o a w K Q := by
  refine ⟨?_⟩
  have c0 := hm.cell0; have c1 := hm.cell1; have c2 := hm.cell2
  have f0 := hm.free 0; have f1 := hm.free 1; have f2 := hm.free 2
  obtain ⟨w', e, m, kp, sz⟩ := hm.put N' S' (.slice ao n c)
  have hh := h w' m kp sz
  rw [e] at hh
  clear hm m kp h e sz
  unfold busV at hy
  unfold Oper.wp execOp
  rw [ho]
  dsimp only
  rw [hx, hy]
  go_simp
  exact hh
theorem run_get2 {f : Operand → Value} {o : Oper} (x : Operand) (i : Nat) (ho : o.op = .extract x i) {u v : Value} (hx : f x = .tuple #[u, v]) {r : Value} (hr : (#[u, v] : Array Value)[i]? = some r) (w : World) : (execOp f o).run Try.prog w = .ok (.value r) w := by
  unfold execOp
  rw [ho]
  dsimp only
  rw [hx]
  go_simp
/-- Four numbers and bytes in a variable of whatever type. -/
theorem pc_block {w : World} {t : TypeId} {b : Nat} {p : Pc} {v : Value} (h : w.heap[b]? = some (.cells #[.int .i64 p.fr, .int .i64 p.to, .int .i64 p.du, .int .i64 p.se, v] t (0, 0))) : PcAt w b 0 p v := by
  unfold PcAt World.cell?
  simp [h]
theorem pc_new (w : World) (t : TypeId) (p : Pc) (v : Value) : PcAt (w.alloc (.cells #[.int .i64 p.fr, .int .i64 p.to, .int .i64 p.du, .int .i64 p.se, v] t)) w.heap.size 0 p v :=
  pc_block (t := t) (by
    show (w.heap.push _)[w.heap.size]? = _
    rw [Array.getElem?_push_size])
theorem PcAt.zero {w : World} {b : Nat} {p : Pc} {v : Value} (h : PcAt w b 0 p v) : w.cell? ⟨b, 0, none⟩ = some (.int .i64 p.fr) ∧ w.cell? ⟨b, 1, none⟩ = some (.int .i64 p.to) ∧ w.cell? ⟨b, 2, none⟩ = some (.int .i64 p.du) ∧ w.cell? ⟨b, 3, none⟩ = some (.int .i64 p.se) ∧ w.cell? ⟨b, 4, none⟩ = some v := by
  unfold PcAt at h
  simp only [Nat.zero_add] at h
  exact h
theorem PcAt.kept {w w' : World} {b o z : Nat} {p : Pc} {v : Value} (h : PcAt w b o p v) (k : Kept z w w') (hz : b ≠ z) : PcAt w' b o p v := h.same (k.block b h.lt hz)
theorem wp_call5 (w : World) {P : Program} {Q : Exit → Act → World → Prop} {o : Oper} {a : Act} {K : Act → World → Prop} (n : Nat) (x y z u v : Operand) (T : Array TypeId) (ho : o.op = .call { callee := .value (.func n), args := #[x, y, z, u, v], argTypes := T }) {p q r s t : Value} (hx : a.eval x = p) (hy : a.eval y = q) (hz : a.eval z = r) (hu : a.eval u = s) (hv : a.eval v = t) (hf : (callFunc n #[p, q, r, s, t]).run P w = .ok (.enter n #[p, q, r, s, t]) w) {R : Ending → World → Prop} (hc : Calls P n #[p, q, r, s, t] w R)
    (h : ∀ e w', R e w' → ∃ r, e = .returned r ∧ K (a.put o.dst r) w') : WpI P o a w K Q := by
  refine ⟨?_⟩
  have e : (execOp a.eval o).run P w = .ok (.enter n #[p, q, r, s, t]) w := by
    unfold execOp
    rw [ho]
    have hv2 : a.eval (Operand.func n) = .func (.func n) #[] #[] := rfl
    simp only [resolve, invoke, Sem.run_bind, List.map_toArray, List.map_cons, List.map_nil, hx, hy, hz, hu, hv, hv2]
    go_simp
  unfold Oper.wp
  rw [e, Oper.upon_enter]
  refine hc.mono ?_
  intro e w' hr
  obtain ⟨r, rfl, hk⟩ := h e w' hr
  exact hk

end Go.Proofs.Ythjeedlhlkggkab
